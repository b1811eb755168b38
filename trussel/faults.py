"""The faults of an order: what wear, years, anvils and rules forbid."""

from trussel.coins import SIDES, check_coins, die_field, dies_of, places_of
from trussel.errors import BadAnvils, BadRule
from trussel.wear import number_from, within

MOST_ANVILS = 9
RULE_WORDS = ("coin", "lower", "upper")
YEAR_FIELD = 4


def check_anvils(anvils):
    """Refuse what is no count of anvils."""
    if not number_from(anvils, 1, MOST_ANVILS):
        raise BadAnvils("there are from one to nine anvils")


def good_rule(coins, rule):
    """Whether it is a rule for these coins: of two unlike places, or dies that they have."""
    word, one, other = rule
    if word not in RULE_WORDS or one == other:
        return False
    return places_of(coins, word, one) != [] and places_of(coins, word, other) != []


def check_rules(coins, rules):
    """Refuse rules of which one is none for these coins."""
    for at, rule in enumerate(rules):
        if not good_rule(coins, rule):
            raise BadRule(f"rule {at} is none for these coins")


def stand_of(places):
    """The stand of unlike places: 2 to the place for each of them."""
    return sum([1 << place for place in places])


def with_coin(stand, place):
    """The stand with that coin, too."""
    return stand | (1 << place)


def more_worn(one, other):
    """Whether one has, of a die that both are of, marks that are not within other's."""
    for side in SIDES:
        field = die_field(side)
        if one[field] == other[field] and not within(one[field + 1], other[field + 1]):
            return True
    return False


def later(one, other):
    """Whether both coins bear years, and one's is the greater."""
    return 0 < other[YEAR_FIELD] < one[YEAR_FIELD]


def worn_stands(coins):
    """For each coin the stand of those that wear keeps from being ahead of it."""
    return [stand_of([at for at, one in enumerate(coins) if more_worn(one, coin)]) for coin in coins]


def later_stands(coins):
    """For each coin the stand of those that years keep from being ahead of it."""
    return [stand_of([at for at, one in enumerate(coins) if later(one, coin)]) for coin in coins]


def die_stands(coins):
    """For each lower die the stand of its coins."""
    return [stand_of(places_of(coins, "lower", die)) for die in dies_of(coins, "lower")]


def needed_stands(coins, rules):
    """For each coin the list of stands of each of which the rules want a coin ahead of it."""
    needed = [[] for coin in coins]
    for word, one, other in rules:
        first = stand_of(places_of(coins, word, one))
        for place in places_of(coins, word, other):
            # A rule may stand twice; once is enough here.
            if first not in needed[place]:
                needed[place].append(first)
    return needed


class Bounds:
    """What bounds the next coin, all as stands, so that one is asked fast at each of many stands."""

    def __init__(self, coins, anvils, rules):
        self.size = len(coins)
        self.full = (1 << len(coins)) - 1
        self.room = anvils
        self.worn_by_place = worn_stands(coins)
        self.later_by_place = later_stands(coins)
        self.lower_dies = die_stands(coins)
        self.needed_by_place = needed_stands(coins, rules)


def check_asked(coins, anvils, rules):
    """Refuse bad coins, then bad anvils, then bad rules."""
    check_coins(coins)
    check_anvils(anvils)
    check_rules(coins, rules)


def bounds_of(coins, anvils, rules):
    """The bounds of these coins, behind the refusals of what is bad."""
    check_asked(coins, anvils, rules)
    return Bounds(coins, anvils, rules)


def dies_in_use(bounds, stand, place):
    """Of how many lower dies there is a coin up to the next one and a coin from it on."""
    struck = with_coin(stand, place)
    left = bounds.full - stand
    return len([die for die in bounds.lower_dies if die & struck and die & left])


def next_fault(bounds, stand, place):
    """The fault of a coin as the next one behind those of the stand, or None."""
    if stand & bounds.worn_by_place[place]:
        return "wear"
    if stand & bounds.later_by_place[place]:
        return "year"
    if dies_in_use(bounds, stand, place) > bounds.room:
        return "anvil"
    if not all([stand & needed for needed in bounds.needed_by_place[place]]):
        return "rule"
    return None


def places_fault(many, order):
    """The fault of a list of numbers that has not each place below many once, or None."""
    if len(order) != many:
        return ("many", len(order))
    for at, place in enumerate(order):
        if not number_from(place, 0, many - 1):
            return ("stranger", at)
        if place in order[:at]:
            return ("twice", at)
    return None


def fault_of(bounds, order):
    """The fault of a list of numbers for coins of these bounds, or None."""
    fault = places_fault(bounds.size, order)
    if fault is not None:
        return fault
    stand = 0
    for at, place in enumerate(order):
        word = next_fault(bounds, stand, place)
        if word is not None:
            return (word, at)
        stand = with_coin(stand, place)
    return None


def order_fault(coins, anvils, rules, order):
    """The fault of a list of numbers as (word, number), or None where it is an order."""
    return fault_of(bounds_of(coins, anvils, rules), order)

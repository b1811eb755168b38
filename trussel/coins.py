"""Coins, and what the marks of a list of them tell of their dies."""

from trussel.errors import BadCoin, BadSide, NoDie, NoPlace, TooMany
from trussel.wear import good_marks, is_number, number_from, within

MOST_COINS = 9
LAST_DIE = 99
LAST_YEAR = 9999

SIDES = ("lower", "upper")

# Where a coin has its die of a side; the marks of that die stand right behind it.
DIE_FIELDS = {"lower": 0, "upper": 2}


def good_coin(coin):
    """Whether it is a coin: two dies with good marks, and a year or 0."""
    lower, lower_marks, upper, upper_marks, year = coin
    good_lower = number_from(lower, 1, LAST_DIE) and good_marks(lower_marks)
    good_upper = number_from(upper, 1, LAST_DIE) and good_marks(upper_marks)
    return good_lower and good_upper and number_from(year, 0, LAST_YEAR)


def check_coin(coin):
    """Refuse what is no coin."""
    # No refusal shows the refused number: Python does not write very great ones.
    if not good_coin(coin):
        raise BadCoin("it is no coin")


def check_coins(coins):
    """Refuse a list of too many coins, then one with a bad coin."""
    if len(coins) > MOST_COINS:
        raise TooMany("at most nine coins are asked about at once")
    for coin in coins:
        check_coin(coin)


def check_place(coins, place):
    """Refuse a number that is no coin's place."""
    if not number_from(place, 0, len(coins) - 1):
        raise NoPlace("no coin has that place")


def check_side(side):
    """Refuse what is no side."""
    if side not in SIDES:
        raise BadSide("a side is lower or upper")


def die_field(side):
    """Where a coin has its die of that side; refuse what is no side."""
    check_side(side)
    return DIE_FIELDS[side]


def with_thing(things, at, thing):
    """The tuple with that thing at that place instead of its own."""
    return things[:at] + (thing,) + things[at + 1:]


def places_of(coins, word, thing):
    """The places of the coins that are meant by a place (the word is coin) or by a die of a side."""
    if not is_number(thing):
        return []
    if word == "coin":
        return [place for place in range(len(coins)) if place == thing]
    field = die_field(word)
    return [place for place, coin in enumerate(coins) if coin[field] == thing]


def check_die(coins, side, die):
    """Refuse a die of that side that no coin has."""
    if not places_of(coins, side, die):
        raise NoDie("no coin is of that die")


def dies_of(coins, side):
    """The dies of that side that the coins have, rising, each once."""
    check_coins(coins)
    field = die_field(side)
    return sorted({coin[field] for coin in coins})


def two_at_odds(one, other, field):
    """Whether two coins are of the same die there and neither's marks are within the other's."""
    if one[field] != other[field]:
        return False
    one_marks = one[field + 1]
    other_marks = other[field + 1]
    return not within(one_marks, other_marks) and not within(other_marks, one_marks)


def pair_at_odds(coins, places, field):
    """The least pair of these rising places whose coins are at odds there, or None."""
    for at, one in enumerate(places):
        for other in places[at + 1:]:
            if two_at_odds(coins[one], coins[other], field):
                return (one, other)
    return None


def at_odds(coins):
    """The first pair at odds as (side, i, j), the lower side first, or None."""
    check_coins(coins)
    places = list(range(len(coins)))
    for side in SIDES:
        pair = pair_at_odds(coins, places, die_field(side))
        if pair is not None:
            return (side, pair[0], pair[1])
    return None


def stages(coins, side, die):
    """The places of a die's coins by their marks, as these grow; None where two are at odds."""
    check_coins(coins)
    field = die_field(side)
    check_die(coins, side, die)
    places = places_of(coins, side, die)
    if pair_at_odds(coins, places, field) is not None:
        return None
    by_marks = {}
    for place in places:
        by_marks.setdefault(coins[place][field + 1], []).append(place)
    # Of unlike marks that lie within one another the greater ones are more.
    return [by_marks[marks] for marks in sorted(by_marks, key=len)]

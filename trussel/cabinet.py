"""A cabinet of coins that were seen, and of facts about them."""

from trussel.anvils import fewest_of
from trussel.coins import MOST_COINS, check_coin, check_die, check_side, die_field, dies_of, with_thing
from trussel.errors import BadList, Full, NoCoin, NoFact, SameOne
from trussel.faults import check_anvils
from trussel.firsts import told_of
from trussel.orders import how_many, least_order
from trussel.papers import paper_of
from trussel.wear import is_number


def least_free(dies):
    """The least number from 1 on that is none of these."""
    number = 1
    while number in dies:
        number += 1
    return number


class Cabinet:
    """At most nine coins, by their numbers, and facts: that one was struck ahead of another."""

    def __init__(self):
        self.held = {}
        self.claims = {}
        # Kept apart from what is there, as no number is given again.
        self.last_coin = 0
        self.last_fact = 0

    def check_number(self, number):
        """Refuse a number that no coin has."""
        # Python would find True and False as 1 and 0.
        if not is_number(number) or number not in self.held:
            raise NoCoin("no coin has that number")

    def check_pair(self, one, other):
        """Refuse numbers that no coin has, then one number twice."""
        self.check_number(one)
        self.check_number(other)
        if one == other:
            raise SameOne("two unlike coins are asked for")

    def numbers_of(self, side, die):
        """The numbers of the coins of a die, rising."""
        field = die_field(side)
        return [number for number in self.numbers() if self.held[number][field] == die]

    def give_die(self, side, numbers, die):
        """Let the coins of these numbers be of that die."""
        field = die_field(side)
        for number in numbers:
            self.held[number] = with_thing(self.held[number], field, die)

    def fact_rules(self):
        """The facts as rules for the coins in the order of their numbers."""
        places = {number: place for place, number in enumerate(self.numbers())}
        return [("coin", places[one], places[other]) for fact, one, other in self.facts()]

    def put(self, coin):
        """Put a coin in; tell its number."""
        check_coin(coin)
        if len(self.held) == MOST_COINS:
            raise Full("there is no room for one more coin")
        self.last_coin += 1
        self.held[self.last_coin] = coin
        return self.last_coin

    def right(self, number, coin):
        """Put a coin right; tell the one that was there."""
        old = self.coin(number)
        check_coin(coin)
        self.held[number] = coin
        return old

    def out(self, number):
        """Strike a coin out, and the facts that name it; tell the coin."""
        self.check_number(number)
        self.claims = {fact: pair for fact, pair in self.claims.items() if number not in pair}
        return self.held.pop(number)

    def tell(self, one, other):
        """Keep the fact that one was struck ahead of other; tell the fact's number."""
        self.check_pair(one, other)
        self.last_fact += 1
        self.claims[self.last_fact] = (one, other)
        return self.last_fact

    def untell(self, number):
        """Take a fact back; tell its two coins."""
        if not is_number(number) or number not in self.claims:
            raise NoFact("no fact has that number")
        return self.claims.pop(number)

    def one_die(self, side, die, other):
        """Let all coins of the other die be of the one; tell their numbers."""
        check_side(side)
        check_die(self.coins(), side, die)
        check_die(self.coins(), side, other)
        if die == other:
            raise SameOne("two unlike dies are asked for")
        numbers = self.numbers_of(side, other)
        self.give_die(side, numbers, die)
        return numbers

    def two_dies(self, side, die, numbers):
        """Let some coins of a die be of a new one; tell the new one."""
        check_side(side)
        check_die(self.coins(), side, die)
        all_of_die = self.numbers_of(side, die)
        for number in numbers:
            if not is_number(number) or number not in all_of_die:
                raise NoCoin("no coin of that die has that number")
        if len(set(numbers)) != len(numbers) or len(numbers) in (0, len(all_of_die)):
            raise BadList("some coins of the die are asked for, each once, not all of them")
        new_die = least_free(dies_of(self.coins(), side))
        self.give_die(side, numbers, new_die)
        return new_die

    def numbers(self):
        """The numbers of the coins, rising."""
        return sorted(self.held)

    def coin(self, number):
        """The coin of a number."""
        self.check_number(number)
        return self.held[number]

    def coins(self):
        """The coins in the order of their numbers."""
        return [self.held[number] for number in self.numbers()]

    def facts(self):
        """The facts as (number, one, other), rising."""
        return [(number, self.claims[number][0], self.claims[number][1]) for number in sorted(self.claims)]

    def order(self, anvils):
        """The least order, as a list of the coins' numbers, or None."""
        places = least_order(self.coins(), anvils, self.fact_rules())
        if places is None:
            return None
        numbers = self.numbers()
        return [numbers[place] for place in places]

    def many(self, anvils):
        """How many orders there are."""
        return how_many(self.coins(), anvils, self.fact_rules())

    def paper(self, anvils):
        """A paper, by places among the coins, or None where there is an order."""
        return paper_of(self.coins(), anvils, self.fact_rules())

    def told(self, anvils, one, other):
        """What every order tells of two coins."""
        check_anvils(anvils)
        self.check_pair(one, other)
        numbers = self.numbers()
        return told_of(self.coins(), anvils, self.fact_rules(), "coin", numbers.index(one), numbers.index(other))

    def fewest(self):
        """The fewest anvils with which there is an order, or None."""
        found = fewest_of(self.coins(), self.fact_rules())
        if found is None:
            return None
        return found[0]

    def twin(self):
        """A cabinet that stands alike and goes its own way."""
        other = Cabinet()
        other.held = dict(self.held)
        other.claims = dict(self.claims)
        other.last_coin = self.last_coin
        other.last_fact = self.last_fact
        return other

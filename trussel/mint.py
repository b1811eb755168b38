"""A mint: its anvils, its dies and the coins that it strikes."""

from trussel.coins import LAST_DIE, LAST_YEAR, check_side, with_thing
from trussel.errors import BadSpot, BadYear, Fixed, Full, Gone, Marked, NoAnvil, NoCoin, NoDie, NotFixed
from trussel.faults import check_anvils
from trussel.wear import LAST_SPOT, both, number_from

MOST_STRUCK = 200


def check_cut(wear, die):
    """Refuse a number that no die has, of a side whose dies are worn so."""
    if not number_from(die, 1, len(wear)):
        raise NoDie("no such die was cut")


class Mint:
    """A mint that cuts and fixes dies, strikes coins with them and lays them off."""

    def __init__(self, anvils):
        check_anvils(anvils)
        # All of these are tuples or numbers: a deed puts others there, so a twin may share them.
        self.bench = (None,) * anvils
        self.laid_off = ()
        self.lower_wear = ()
        self.upper_wear = ()
        self.present = 0
        self.output = ()

    def wear_of(self, side):
        """The marks of each die of that side; refuse what is no side."""
        check_side(side)
        if side == "lower":
            return self.lower_wear
        return self.upper_wear

    def put_wear(self, side, wear):
        """Let these be the marks of each die of that side."""
        if side == "lower":
            self.lower_wear = wear
        else:
            self.upper_wear = wear

    def cut(self, side):
        """Cut a die of that side; tell its number."""
        wear = self.wear_of(side)
        if len(wear) == LAST_DIE:
            raise Full("no more dies of that side are cut")
        self.put_wear(side, wear + ((),))
        return len(wear) + 1

    def fix(self, die):
        """Fix a lower die on the free anvil with the least number; tell the anvil."""
        state = self.state(die)
        if state == "fixed":
            raise Fixed("the die is on an anvil")
        if state == "gone":
            raise Gone("the die was laid off")
        if None not in self.bench:
            raise NoAnvil("no anvil is free")
        anvil = self.bench.index(None)
        self.bench = with_thing(self.bench, anvil, die)
        return anvil

    def lay_off(self, die):
        """Lay off a lower die for ever; tell the anvil that is free then."""
        if self.state(die) != "fixed":
            raise NotFixed("the die is on no anvil")
        anvil = self.bench.index(die)
        self.bench = with_thing(self.bench, anvil, None)
        self.laid_off += (die,)
        return anvil

    def mark(self, side, die, spot):
        """Let a mark come to a die."""
        marks = self.marks(side, die)
        if side == "lower" and die in self.laid_off:
            raise Gone("the die was laid off")
        if not number_from(spot, 0, LAST_SPOT):
            raise BadSpot("a die has no such spot")
        if spot in marks:
            raise Marked("the die has that mark")
        self.put_wear(side, with_thing(self.wear_of(side), die - 1, both(marks, (spot,))))

    def strike(self, lower, upper):
        """Strike a coin from two dies; tell its number."""
        coin = (lower, self.marks("lower", lower), upper, self.marks("upper", upper), self.present)
        if lower not in self.bench:
            raise NotFixed("the lower die is on no anvil")
        if len(self.output) == MOST_STRUCK:
            raise Full("no more coins are struck")
        self.output += (coin,)
        return len(self.output) - 1

    def begin_year(self, number):
        """Begin a year, later than the present one."""
        if not number_from(number, self.present + 1, LAST_YEAR):
            raise BadYear("no such year can begin")
        self.present = number

    def anvils(self):
        """For each anvil its die, or None."""
        return list(self.bench)

    def dies(self, side):
        """How many dies of that side were cut."""
        return len(self.wear_of(side))

    def marks(self, side, die):
        """The marks of a die."""
        wear = self.wear_of(side)
        check_cut(wear, die)
        return wear[die - 1]

    def state(self, die):
        """Whether a lower die is new, fixed or gone."""
        check_cut(self.lower_wear, die)
        if die in self.bench:
            return "fixed"
        if die in self.laid_off:
            return "gone"
        return "new"

    def year(self):
        """The present year, 0 ahead of the first."""
        return self.present

    def struck(self):
        """How many coins were struck."""
        return len(self.output)

    def coin(self, number):
        """The coin of a number."""
        if not number_from(number, 0, len(self.output) - 1):
            raise NoCoin("no coin has that number")
        return self.output[number]

    def hoard(self, numbers):
        """The coins of these numbers, in that order."""
        return [self.coin(number) for number in numbers]

    def twin(self):
        """A mint that stands alike and goes its own way."""
        other = Mint(len(self.bench))
        other.bench = self.bench
        other.laid_off = self.laid_off
        other.lower_wear = self.lower_wear
        other.upper_wear = self.upper_wear
        other.present = self.present
        other.output = self.output
        return other

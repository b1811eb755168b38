"""The refusals, each a class of its own straight under MintError."""


class MintError(ValueError):
    """Any refusal."""


class TooMany(MintError):
    """More coins than are asked about at once."""


class BadCoin(MintError):
    """A coin that is none."""


class BadAnvils(MintError):
    """A count of anvils that is none."""


class BadRule(MintError):
    """A rule that is none for the coins."""


class BadSide(MintError):
    """A text that names no side, or nothing that can be asked about."""


class NoPlace(MintError):
    """A number that is no coin's place."""


class NoDie(MintError):
    """A die that is not there."""


class SameOne(MintError):
    """One thing twice, where two unlike ones are asked for."""


class BadStand(MintError):
    """A number that is no stand of the coins."""


class BadNumber(MintError):
    """A number that no order has."""


class NoOrder(MintError):
    """Coins that have no order."""


class Full(MintError):
    """No room for one more."""


class Fixed(MintError):
    """A die that is on an anvil already."""


class Gone(MintError):
    """A die that was laid off."""


class NoAnvil(MintError):
    """No anvil is free."""


class NotFixed(MintError):
    """A die that is on no anvil."""


class BadSpot(MintError):
    """A number that is no spot of a die."""


class Marked(MintError):
    """A mark that the die has already."""


class BadYear(MintError):
    """A number that is no year that can begin."""


class NoCoin(MintError):
    """A number that no coin has."""


class NoFact(MintError):
    """A number that no fact has."""


class BadList(MintError):
    """Coins that can't be parted from a die."""


class BadDeed(MintError):
    """A row that is no deed."""


class Nothing(MintError):
    """No deed to take back or to do again."""


class BadText(MintError):
    """A text that is not read; row is the number of its first wrong row, from 0 on."""

    def __init__(self, row):
        self.row = row

"""A ledger that keeps a mint by deeds, and its text."""

from trussel.errors import BadAnvils, BadDeed, BadText, MintError, Nothing
from trussel.mint import Mint
from trussel.words import plain_number

# The things that a deed has behind its first text.
FORMS = {
    "cut": ("side",),
    "fix": ("number",),
    "off": ("number",),
    "mark": ("side", "number", "number"),
    "strike": ("number", "number"),
    "year": ("number",),
}


def check_deed(deed):
    """Refuse a row that is no deed."""
    if len(deed) == 0 or deed[0] not in FORMS or len(deed) - 1 != len(FORMS[deed[0]]):
        raise BadDeed("it is no deed")


def done_at(mint, deed):
    """Do a deed at a mint; tell what the mint gives for it."""
    word = deed[0]
    if word == "cut":
        return mint.cut(deed[1])
    if word == "fix":
        return mint.fix(deed[1])
    if word == "off":
        return mint.lay_off(deed[1])
    if word == "mark":
        return mint.mark(deed[1], deed[2], deed[3])
    if word == "strike":
        return mint.strike(deed[1], deed[2])
    return mint.begin_year(deed[1])


class Ledger:
    """The deeds of a mint, which can be taken back and done again."""

    def __init__(self, anvils):
        # The mint ahead of all deeds and behind each: none is changed once it stands here, so twins share them.
        self.mints = [Mint(anvils)]
        self.done = []
        self.undone = []

    def go_on(self, deed):
        """Do a deed behind those that are done; tell what the mint gives for it."""
        mint = self.mint()
        given = done_at(mint, deed)
        self.mints.append(mint)
        self.done.append(deed)
        return given

    def do(self, deed):
        """Do a deed, and let all go that was taken back; tell what the mint gives for it."""
        check_deed(deed)
        given = self.go_on(tuple(deed))
        self.undone = []
        return given

    def back(self):
        """Take the last deed back; tell it."""
        if not self.done:
            raise Nothing("no deed is left to take back")
        deed = self.done.pop()
        self.mints.pop()
        self.undone.append(deed)
        return deed

    def again(self):
        """Do the deed again that was taken back last; tell it."""
        if not self.undone:
            raise Nothing("no deed is left to do again")
        deed = self.undone.pop()
        self.go_on(deed)
        return deed

    def deeds(self):
        """The deeds that are done and not taken back."""
        return list(self.done)

    def mint(self):
        """A mint that stands as the ledger's one does and goes its own way."""
        return self.mints[-1].twin()

    def text(self):
        """The ledger's text."""
        rows = [f"mint {len(self.mint().anvils())}"]
        for deed in self.done:
            rows.append(" ".join([str(thing) for thing in deed]))
        return "\n".join(rows)

    def twin(self):
        """A ledger with the same deeds to take back and do again, that goes its own way."""
        other = Ledger(len(self.mint().anvils()))
        other.mints = list(self.mints)
        other.done = list(self.done)
        other.undone = list(self.undone)
        return other


def read_thing(form, word):
    """A side as it stands, or a number; None where that is not plainly written."""
    if form == "side":
        return word
    return plain_number(word)


def read_deed(row):
    """The deed of a row, or None where the row has not the form of one."""
    first, *words = row.split(" ")
    if first not in FORMS or len(words) != len(FORMS[first]):
        return None
    things = [read_thing(form, word) for form, word in zip(FORMS[first], words)]
    if None in things:
        return None
    return tuple([first] + things)


def read_first_row(row):
    """A ledger without deeds, by the first row of its text."""
    words = row.split(" ")
    if len(words) != 2 or words[0] != "mint":
        raise BadText(0)
    try:
        # Where no number is plainly written there is none, and so no count of anvils.
        return Ledger(plain_number(words[1]))
    except BadAnvils:
        raise BadText(0) from None


def read_ledger(text):
    """The ledger of a text."""
    rows = text.split("\n")
    ledger = read_first_row(rows[0])
    for at in range(1, len(rows)):
        deed = read_deed(rows[at])
        if deed is None:
            raise BadText(at)
        try:
            ledger.do(deed)
        except MintError:
            raise BadText(at) from None
    return ledger

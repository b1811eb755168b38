"""Coins and numbers as texts."""

from trussel.coins import check_coin, good_coin
from trussel.errors import BadText

FIGURES = "0123456789"
# No number of a coin or of a deed has more of them.
MOST_FIGURES = 4
NONE = "-"


def plain_number(text):
    """The number that is written without needless noughts by a few figures, or None."""
    if not 0 < len(text) <= MOST_FIGURES or not all([sign in FIGURES for sign in text]):
        return None
    number = int(text)
    if str(number) != text:
        return None
    return number


def marks_text(marks):
    """Marks as figures, or what stands for none."""
    if not marks:
        return NONE
    return "".join([str(spot) for spot in marks])


def year_text(year):
    """A year, or what stands for none."""
    if year == 0:
        return NONE
    return str(year)


def coin_text(coin):
    """The text of a coin."""
    check_coin(coin)
    lower, lower_marks, upper, upper_marks, year = coin
    return f"{lower}/{marks_text(lower_marks)} {upper}/{marks_text(upper_marks)} {year_text(year)}"


def read_marks(text):
    """The spots that are written; another sign than a figure gives what is no spot."""
    if text == NONE:
        return ()
    return tuple([FIGURES.find(sign) for sign in text])


def read_die(word):
    """The number and the marks of a die, as far as they are plainly written."""
    number, stroke, marks = word.partition("/")
    return (plain_number(number), read_marks(marks))


def read_year(word):
    """The year that is written, 0 for none, or None where it is not plainly written."""
    if word == NONE:
        return 0
    return plain_number(word)


def read_coin(text):
    """The coin of a text."""
    words = text.split(" ")
    if len(words) != 3:
        raise BadText(0)
    coin = read_die(words[0]) + read_die(words[1]) + (read_year(words[2]),)
    # What is read too freely, as a missing stroke or a year of 0, is not how the coin is written.
    if not good_coin(coin) or coin_text(coin) != text:
        raise BadText(0)
    return coin

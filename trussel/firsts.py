"""What every order tells of two coins, or of two dies of one side."""

from trussel.coins import check_die, check_place
from trussel.errors import BadSide, NoOrder, SameOne
from trussel.faults import RULE_WORDS, Bounds, check_asked
from trussel.orders import first_order
from trussel.papers import shown_paper


def check_thing(coins, word, thing):
    """Refuse what is no coin's place, or no die of that side that a coin has."""
    if word == "coin":
        check_place(coins, thing)
    else:
        check_die(coins, word, thing)


def check_pair(coins, word, one, other):
    """Refuse a word that is none, then things that are none, then one thing twice."""
    if word not in RULE_WORDS:
        raise BadSide("asked about are coins, lower dies or upper dies")
    check_thing(coins, word, one)
    check_thing(coins, word, other)
    if one == other:
        raise SameOne("two unlike ones are asked about")


def why_of(coins, anvils, rules, word, one, other):
    """What every order tells of one and other, and what shows it."""
    check_asked(coins, anvils, rules)
    check_pair(coins, word, one, other)
    # The rule more is kept by just the orders in which the one of it is ahead.
    one_ahead = Bounds(coins, anvils, rules + [(word, one, other)])
    other_ahead = Bounds(coins, anvils, rules + [(word, other, one)])
    one_order = first_order(one_ahead)
    other_order = first_order(other_ahead)
    if one_order is None and other_order is None:
        raise NoOrder("there is no order")
    if other_order is None:
        return ("first", shown_paper(other_ahead))
    if one_order is None:
        return ("later", shown_paper(one_ahead))
    return ("either", one_order, other_order)


def told_of(coins, anvils, rules, word, one, other):
    """Whether one is ahead of other in every order, behind it in every order, or neither."""
    return why_of(coins, anvils, rules, word, one, other)[0]

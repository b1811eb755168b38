"""The fewest anvils with which some coins can have been struck."""

from trussel.coins import check_coins
from trussel.errors import NoOrder
from trussel.faults import MOST_ANVILS, Bounds, check_rules
from trussel.orders import first_order
from trussel.papers import shown_paper


def fewest_of(coins, rules):
    """What fewest tells of good coins and rules, or None where no count of anvils has an order."""
    paper = None
    for count in range(1, MOST_ANVILS + 1):
        bounds = Bounds(coins, count, rules)
        order = first_order(bounds)
        if order is not None:
            return (count, order, paper)
        paper = shown_paper(bounds)
    return None


def fewest(coins, rules):
    """The least count of anvils with an order, an order, and a paper for one anvil fewer or None."""
    check_coins(coins)
    check_rules(coins, rules)
    told = fewest_of(coins, rules)
    if told is None:
        raise NoOrder("there is no order with any count of anvils")
    return told

"""Papers: lists of stands that show that there is no order."""

from trussel.faults import bounds_of, with_coin
from trussel.stands import followers, reached_stands
from trussel.wear import number_from


def shown_paper(bounds):
    """A paper for coins of these bounds, or None where they have an order."""
    stands = reached_stands(bounds)
    # They rise, so that of all coins would be the last one.
    if stands[-1] == bounds.full:
        return None
    return stands


def rising_stands(bounds, stands):
    """Whether they are stands, rising, that of no coins among them and that of all coins not."""
    least = 0
    for stand in stands:
        if not number_from(stand, least, bounds.full - 1):
            return False
        least = stand + 1
    return len(stands) > 0 and stands[0] == 0


def led_out_of(bounds, stands):
    """Whether a coin may follow at one of these stands and lead to one that is not among them."""
    known = set(stands)
    for stand in stands:
        for place in followers(bounds, stand):
            if with_coin(stand, place) not in known:
                return True
    return False


def paper_of(coins, anvils, rules):
    """A paper, or None where there is an order."""
    return shown_paper(bounds_of(coins, anvils, rules))


def bars(coins, anvils, rules, stands):
    """Whether a list of any numbers is a paper."""
    bounds = bounds_of(coins, anvils, rules)
    return rising_stands(bounds, stands) and not led_out_of(bounds, stands)

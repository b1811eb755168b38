"""Stands: which coins were struck so far, and which may follow."""

from trussel.coins import check_place
from trussel.errors import BadStand
from trussel.faults import bounds_of, next_fault, with_coin
from trussel.wear import number_from


def check_stand(bounds, stand):
    """Refuse a number that is no stand of the coins."""
    if not number_from(stand, 0, bounds.full):
        raise BadStand("the coins have no such stand")


def follows(bounds, stand, place):
    """Whether a coin is not of the stand, and without fault as the next one."""
    return with_coin(stand, place) != stand and next_fault(bounds, stand, place) is None


def followers(bounds, stand):
    """The places that may follow at a stand, rising."""
    return [place for place in range(bounds.size) if follows(bounds, stand, place)]


def reached_stands(bounds):
    """All stands to which coins lead from that of none, each one following, rising."""
    led_to = {0}
    told = []
    # A stand with one coin more is a greater number: so each is met behind those that lead to it.
    for stand in range(bounds.full + 1):
        if stand in led_to:
            told.append(stand)
            for place in followers(bounds, stand):
                led_to.add(with_coin(stand, place))
    return told


def may_follow(coins, anvils, rules, stand, place):
    """Whether a coin may follow at a stand."""
    bounds = bounds_of(coins, anvils, rules)
    check_stand(bounds, stand)
    check_place(coins, place)
    return follows(bounds, stand, place)


def following(coins, anvils, rules, stand):
    """The places that may follow at a stand, rising."""
    bounds = bounds_of(coins, anvils, rules)
    check_stand(bounds, stand)
    return followers(bounds, stand)


def reached(coins, anvils, rules):
    """All stands of coins that can be struck ahead of all others, rising."""
    return reached_stands(bounds_of(coins, anvils, rules))

"""Orders: the least one, how many there are, and their numbers, reckoned stand by stand."""

from trussel.errors import BadNumber
from trussel.faults import bounds_of, fault_of, with_coin
from trussel.stands import followers, reached_stands
from trussel.wear import number_from


def ways_on(bounds):
    """For each stand that is reached, how many rows of coins lead from it to that of all coins."""
    ways = {}
    # A stand with one coin more is a greater number: going down, its ways are there already.
    for stand in reversed(reached_stands(bounds)):
        if stand == bounds.full:
            ways[stand] = 1
        else:
            ways[stand] = sum([ways[with_coin(stand, place)] for place in followers(bounds, stand)])
    return ways


def step_on(bounds, ways, stand, number):
    """The first place of the order of a number among those on from a stand, and the number left behind it."""
    choices = followers(bounds, stand)
    left = number
    at = 0
    while left >= ways[with_coin(stand, choices[at])]:
        left -= ways[with_coin(stand, choices[at])]
        at += 1
    return (choices[at], left)


def numbered_order(bounds, ways, number):
    """The order of a number that is less than the count of orders."""
    order = []
    stand = 0
    left = number
    while stand != bounds.full:
        place, left = step_on(bounds, ways, stand, left)
        order.append(place)
        stand = with_coin(stand, place)
    return order


def first_order(bounds):
    """The least order of coins of these bounds, or None."""
    ways = ways_on(bounds)
    if ways[0] == 0:
        return None
    return numbered_order(bounds, ways, 0)


def least_order(coins, anvils, rules):
    """The least order, or None."""
    return first_order(bounds_of(coins, anvils, rules))


def how_many(coins, anvils, rules):
    """How many orders there are."""
    return ways_on(bounds_of(coins, anvils, rules))[0]


def order_of(coins, anvils, rules, number):
    """The order of a number, counted from 0, the least first."""
    bounds = bounds_of(coins, anvils, rules)
    ways = ways_on(bounds)
    if not number_from(number, 0, ways[0] - 1):
        raise BadNumber("no order has that number")
    return numbered_order(bounds, ways, number)


def number_of(coins, anvils, rules, order):
    """The number of an order, or None where the list of numbers is none."""
    bounds = bounds_of(coins, anvils, rules)
    if fault_of(bounds, order) is not None:
        return None
    ways = ways_on(bounds)
    number = 0
    stand = 0
    for place in order:
        lesser = [near for near in followers(bounds, stand) if near < place]
        number += sum([ways[with_coin(stand, near)] for near in lesser])
        stand = with_coin(stand, place)
    return number

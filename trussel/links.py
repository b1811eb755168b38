"""Coins that hang together by their dies."""

from trussel.coins import SIDES, check_coins, check_place, die_field


def linked(one, other):
    """Whether two coins are of the same lower die, or of the same upper die."""
    return any([one[die_field(side)] == other[die_field(side)] for side in SIDES])


def near_places(coins, place):
    """The other places whose coins share a die with this one's, rising."""
    return [near for near, coin in enumerate(coins) if near != place and linked(coin, coins[place])]


def steps_to(coins, goal):
    """By place, how many steps each coin that hangs together with that of the goal is away from it."""
    steps = {goal: 0}
    edge = [goal]
    while edge:
        further = []
        for place in edge:
            for near in near_places(coins, place):
                if near not in steps:
                    steps[near] = steps[place] + 1
                    further.append(near)
        edge = further
    return steps


def heaps(coins):
    """The lists of places that hang together, each rising, by their first ones."""
    check_coins(coins)
    told = []
    for place in range(len(coins)):
        heap = sorted(steps_to(coins, place))
        # Each heap is met at all of its places, and told at the first one.
        if heap[0] == place:
            told.append(heap)
    return told


def chain(coins, one, other):
    """The least of the shortest rows of places that lead from one to other, or None."""
    check_coins(coins)
    check_place(coins, one)
    check_place(coins, other)
    steps = steps_to(coins, other)
    if one not in steps:
        return None
    row = [one]
    while row[-1] != other:
        fewer = steps[row[-1]] - 1
        row.append(min([near for near in near_places(coins, row[-1]) if steps[near] == fewer]))
    return row

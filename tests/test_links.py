"""Coins that hang together: trussel.links, promises [1] and [5]."""

import copy
import itertools
import unittest

from plain import BAD_COIN, PLAIN, VERY_GREAT, CoinRefusals
from trussel.errors import BadCoin, NoPlace, TooMany
from trussel.links import chain, heaps


def pairs(*dies):
    """Coins of these (lower, upper), with unlike marks and years, which do not matter here."""
    return [(lower, (k % 8,), upper, (7 - k % 8,), 2000 - k) for k, (lower, upper) in enumerate(dies)]


# Each coin shares a die with the next one alone: lower and upper in turn.
ROW = pairs((1, 1), (1, 2), (2, 2), (2, 3), (3, 3), (3, 4), (4, 4), (4, 5), (5, 5))


def plain_linked(one, other):
    return one[0] == other[0] or one[2] == other[2]


def plain_chains(coins, one, other):
    """All rows of unlike places from one to the other, going through all of them."""
    if one == other:
        return [[one]]
    between = [place for place in range(len(coins)) if place not in (one, other)]
    rows = [
        [one, *middle, other]
        for many in range(len(between) + 1) for middle in itertools.permutations(between, many)
    ]
    return [row for row in rows if all(plain_linked(coins[i], coins[j]) for i, j in zip(row, row[1:]))]


class HeapsTest(CoinRefusals, unittest.TestCase):
    def asked(self, coins):
        return [lambda: heaps(coins)]

    def test_no_coins(self):
        self.assertEqual(heaps([]), [])

    def test_one(self):
        self.assertEqual(heaps([PLAIN]), [[0]])

    def test_two(self):
        self.assertEqual(heaps(pairs((1, 2), (1, 3))), [[0, 1]])
        self.assertEqual(heaps(pairs((1, 2), (3, 2))), [[0, 1]])
        self.assertEqual(heaps(pairs((1, 2), (1, 2))), [[0, 1]])
        self.assertEqual(heaps(pairs((1, 2), (3, 4))), [[0], [1]])

    def test_dies_of_the_two_sides_are_not_one(self):
        self.assertEqual(heaps(pairs((1, 2), (2, 1), (3, 3))), [[0], [1], [2]])

    def test_nine_in_one_heap(self):
        for coins in (
            pairs(*[(1, upper) for upper in range(1, 10)]),
            pairs(*[(lower, 99) for lower in range(1, 10)]),
            ROW,
            [ROW[k] for k in (4, 0, 8, 2, 6, 1, 7, 3, 5)],
            [PLAIN] * 9,
        ):
            self.assertEqual(heaps(coins), [list(range(9))])

    def test_nine_apart(self):
        coins = pairs(*[(lower, 10 - lower) for lower in range(1, 10)])
        self.assertEqual(heaps(coins), [[place] for place in range(9)])

    def test_by_their_first_places_and_rising_within(self):
        coins = pairs((9, 9), (5, 1), (9, 8), (6, 2), (5, 2), (7, 8), (1, 50), (6, 3), (2, 9))
        self.assertEqual(heaps(coins), [[0, 2, 5, 8], [1, 3, 4, 7], [6]])

    def test_a_coin_behind_binds_two_ahead(self):
        self.assertEqual(heaps(pairs((1, 1), (2, 2), (3, 3), (1, 3))), [[0, 2, 3], [1]])

    def test_told_lists_are_new(self):
        coins = pairs((1, 1), (2, 2), (1, 3))
        before = copy.deepcopy(coins)
        told = heaps(coins)
        self.assertEqual([type(told)] + [type(heap) for heap in told], [list] * 3)
        told[0].append(50)
        told[1][0] = 60
        told.append([70])
        self.assertEqual(heaps(coins), [[0, 2], [1]])
        self.assertEqual(coins, before)

    def test_later_change_of_coins_changes_nothing_told(self):
        coins = pairs((1, 1), (2, 2), (1, 3))
        told = heaps(coins)
        coins.clear()
        self.assertEqual(told, [[0, 2], [1]])

    def test_name(self):
        self.assertEqual(heaps(coins=[PLAIN]), [[0]])


class ChainTest(CoinRefusals, unittest.TestCase):
    def asked(self, coins):
        return [
            lambda: chain(coins, 0, 0), lambda: chain(coins, 0, 5), lambda: chain(coins, -1, 0),
            lambda: chain(coins, 0, VERY_GREAT), lambda: chain(coins, 200, 200),
        ]

    def test_to_itself(self):
        for coins in ([PLAIN], [PLAIN] * 9, ROW, pairs((1, 1), (2, 2))):
            for place in range(len(coins)):
                self.assertEqual(chain(coins, place, place), [place])

    def test_two_of_one_die(self):
        for coins in (pairs((1, 2), (1, 3)), pairs((1, 2), (3, 2)), pairs((1, 2), (1, 2))):
            self.assertEqual(chain(coins, 0, 1), [0, 1])
            self.assertEqual(chain(coins, 1, 0), [1, 0])

    def test_long_rows(self):
        self.assertEqual(chain(ROW, 0, 8), list(range(9)))
        self.assertEqual(chain(ROW, 8, 0), list(range(8, -1, -1)))
        self.assertEqual(chain(ROW, 6, 2), [6, 5, 4, 3, 2])
        coins = [ROW[k] for k in (4, 0, 8, 2, 6, 1, 7, 3, 5)]
        self.assertEqual(chain(coins, 1, 2), [1, 5, 3, 7, 0, 8, 4, 6, 2])

    def test_fewest_ahead_of_least(self):
        # 0 1 2 4 is less as a list, but 0 3 4 has fewer coins.
        coins = pairs((1, 1), (1, 2), (2, 2), (3, 1), (3, 3), (2, 3))
        self.assertEqual(chain(coins, 0, 4), [0, 3, 4])
        self.assertEqual(chain(coins, 4, 0), [4, 3, 0])

    def test_least_of_the_fewest_coins(self):
        # From 0 to 5 by any one of the others.
        coins = pairs((1, 1), (1, 2), (2, 1), (1, 2), (2, 1), (2, 2))
        self.assertEqual(chain(coins, 0, 5), [0, 1, 5])
        self.assertEqual(chain(coins, 5, 0), [5, 1, 0])

    def test_least_is_asked_from_the_first_end_on(self):
        # From 0: 0 1 4 5 and 0 3 2 5; from 5 the other row is the lesser one.
        coins = pairs((1, 1), (1, 2), (4, 5), (4, 1), (5, 2), (5, 5))
        self.assertEqual(chain(coins, 0, 5), [0, 1, 4, 5])
        self.assertEqual(chain(coins, 5, 0), [5, 2, 3, 0])

    def test_none(self):
        self.assertIsNone(chain(pairs((1, 2), (2, 1)), 0, 1))
        coins = pairs((9, 9), (5, 1), (9, 8), (6, 2), (5, 2), (7, 8), (1, 50), (6, 3), (2, 9))
        for one, other in ((0, 1), (1, 0), (5, 7), (6, 0), (8, 6)):
            self.assertIsNone(chain(coins, one, other))

    def test_no_place(self):
        for coins in ([], [PLAIN], ROW):
            for place in (len(coins), len(coins) + 1, -1, -len(coins) - 1, VERY_GREAT, -VERY_GREAT):
                for one, other in ((place, place), (place, 0), (0, place)):
                    with self.assertRaises(NoPlace):
                        chain(coins, one, other)

    def test_true_and_false_are_no_places(self):
        for one, other in ((True, 0), (0, True), (False, 0), (0, False)):
            with self.assertRaises(NoPlace):
                chain(ROW, one, other)

    def test_refusals_in_their_order(self):
        with self.assertRaises(TooMany):
            chain([BAD_COIN] * 10, 10, -1)
        with self.assertRaises(BadCoin):
            chain([PLAIN, BAD_COIN], 2, -1)

    def test_told_list_is_new_and_handed_in_stays(self):
        coins = pairs((1, 1), (1, 2), (2, 2))
        before = copy.deepcopy(coins)
        told = chain(coins, 0, 2)
        told.append(9)
        told[0] = 8
        self.assertEqual(chain(coins, 0, 2), [0, 1, 2])
        self.assertEqual(coins, before)

    def test_names(self):
        self.assertEqual(chain(other=0, one=2, coins=ROW), [2, 1, 0])


class AllSmallListsTest(unittest.TestCase):
    def test_against_all_rows(self):
        # Each list of up to three coins of three lower and three upper dies, and some of five.
        pool = [(lower, (), upper, (), 0) for lower in (1, 2, 3) for upper in (1, 2, 3)]
        for many in range(1, 4):
            for coins in itertools.product(pool, repeat=many):
                self.assert_told(list(coins))
        for coins in itertools.islice(itertools.product(pool, repeat=5), 0, None, 307):
            self.assert_told(list(coins))

    def assert_told(self, coins):
        places = range(len(coins))
        together = []
        for one in places:
            found = {other: plain_chains(coins, one, other) for other in places}
            for other in places:
                least = min(found[other], key=lambda row: (len(row), row), default=None)
                self.assertEqual(chain(coins, one, other), least, (coins, one, other))
            heap = [other for other in places if found[other]]
            if heap not in together:
                together.append(heap)
        self.assertEqual(heaps(coins), together, coins)


if __name__ == "__main__":
    unittest.main()

"""Coins: trussel.coins, promises [1], [3] and [4]."""

import copy
import itertools
import unittest

from trussel.coins import at_odds, dies_of, good_coin, stages
from trussel.errors import BadCoin, BadSide, NoDie, TooMany

VERY_GREAT = 10 ** 5000
GOOD = (3, (0, 2, 7), 11, (), 1412)
BAD = (100, (), 1, (), 0)
NO_SIDES = ("", "Lower", "lower ", "coin", "0", "up")
SMALL_MARKS = ((), (0,), (1,), (0, 1))


def lower_coin(die, marks):
    return (die, marks, 1, (), 0)


def upper_coin(die, marks):
    return (1, (), die, marks, 0)


SIDE_COINS = (("lower", lower_coin), ("upper", upper_coin))


def plain_at_odds(one, other):
    return not set(one) <= set(other) and not set(other) <= set(one)


class GoodCoinTest(unittest.TestCase):
    def test_good(self):
        self.assertIs(good_coin(GOOD), True)
        self.assertIs(good_coin((1, (), 1, (), 0)), True)
        self.assertIs(good_coin((99, tuple(range(8)), 99, tuple(range(8)), 9999)), True)

    def test_dies(self):
        for die, good in (
            (1, True), (2, True), (98, True), (99, True),
            (0, False), (100, False), (-1, False), (-99, False),
            (VERY_GREAT, False), (-VERY_GREAT, False),
        ):
            with self.subTest(good):
                self.assertIs(good_coin((die, (), 5, (), 0)), good)
                self.assertIs(good_coin((5, (), die, (), 0)), good)

    def test_bad_marks(self):
        for marks in ((8,), (-1,), (1, 0), (2, 2), (0, VERY_GREAT), (-VERY_GREAT,)):
            with self.subTest(len(marks)):
                self.assertIs(good_coin((1, marks, 1, (), 0)), False)
                self.assertIs(good_coin((1, (), 1, marks, 0)), False)

    def test_years(self):
        for year, good in (
            (0, True), (1, True), (1412, True), (9998, True), (9999, True),
            (10000, False), (-1, False), (VERY_GREAT, False), (-VERY_GREAT, False),
        ):
            with self.subTest(good):
                self.assertIs(good_coin((1, (), 1, (), year)), good)

    def test_true_and_false_are_no_numbers(self):
        self.assertIs(good_coin((True, (), 1, (), 0)), False)
        self.assertIs(good_coin((1, (False,), 1, (), 0)), False)
        self.assertIs(good_coin((1, (), True, (), 0)), False)
        self.assertIs(good_coin((1, (), 1, (True,), 0)), False)
        self.assertIs(good_coin((1, (), 1, (), True)), False)
        self.assertIs(good_coin((1, (), 1, (), False)), False)

    def test_numbers_are_whole_numbers(self):
        self.assertIs(good_coin((1.0, (), 1, (), 0)), False)
        self.assertIs(good_coin((1, (), 1.5, (), 0)), False)
        self.assertIs(good_coin((1, (), 1, (), 1412.0)), False)


class RefusalsTest(unittest.TestCase):
    """What each function that is handed a list of coins refuses, and in which order."""

    def asked(self, coins):
        return (
            lambda: dies_of(coins, "lower"),
            lambda: dies_of(coins, "upper"),
            lambda: dies_of(coins, "none"),
            lambda: at_odds(coins),
            lambda: stages(coins, "lower", 3),
            lambda: stages(coins, "upper", 11),
            lambda: stages(coins, "none", 3),
            lambda: stages(coins, "lower", 50),
            lambda: stages(coins, "none", 50),
        )

    def assert_all_refuse(self, coins, refusal):
        before = copy.deepcopy(coins)
        for ask in self.asked(coins):
            with self.assertRaises(refusal):
                ask()
            self.assertEqual(coins, before)

    def test_too_many(self):
        self.assert_all_refuse([GOOD] * 10, TooMany)
        self.assert_all_refuse([GOOD] * 200, TooMany)

    def test_too_many_ahead_of_a_bad_coin(self):
        self.assert_all_refuse([BAD] * 10, TooMany)
        self.assert_all_refuse([BAD] + [GOOD] * 9, TooMany)
        self.assert_all_refuse([GOOD] * 9 + [BAD], TooMany)

    def test_bad_coin_ahead_of_side_and_die(self):
        self.assert_all_refuse([BAD], BadCoin)
        self.assert_all_refuse([BAD] + [GOOD] * 8, BadCoin)
        self.assert_all_refuse([GOOD] * 8 + [BAD], BadCoin)

    def test_each_kind_of_bad_coin(self):
        for bad in (
            (0, (), 1, (), 0), (1, (8,), 1, (), 0), (1, (), 0, (), 0),
            (1, (), 1, (1, 0), 0), (1, (), 1, (), 10000), (VERY_GREAT, (), 1, (), 0),
        ):
            self.assert_all_refuse([GOOD, bad, GOOD], BadCoin)

    def test_bad_side_ahead_of_die(self):
        for side in NO_SIDES:
            for coins in ([], [GOOD]):
                with self.subTest((side, len(coins))):
                    with self.assertRaises(BadSide):
                        dies_of(coins, side)
                    with self.assertRaises(BadSide):
                        stages(coins, side, 50)
                    with self.assertRaises(BadSide):
                        stages(coins, side, 3)

    def test_no_die(self):
        for die in (0, 1, 4, 99, 100, -3, VERY_GREAT, -VERY_GREAT):
            for side in ("lower", "upper"):
                with self.assertRaises(NoDie):
                    stages([GOOD], side, die)
                with self.assertRaises(NoDie):
                    stages([], side, die)

    def test_no_die_of_that_side(self):
        with self.assertRaises(NoDie):
            stages([GOOD], "lower", 11)
        with self.assertRaises(NoDie):
            stages([GOOD], "upper", 3)


class DiesOfTest(unittest.TestCase):
    def test_no_coins(self):
        self.assertEqual(dies_of([], "lower"), [])
        self.assertEqual(dies_of([], "upper"), [])

    def test_rising_each_once(self):
        coins = [
            (9, (), 20, (), 0), (3, (1,), 7, (), 5), (9, (0,), 7, (2,), 0),
            (99, (), 1, (), 0), (3, (), 20, (), 0),
        ]
        self.assertEqual(dies_of(coins, "lower"), [3, 9, 99])
        self.assertEqual(dies_of(coins, "upper"), [1, 7, 20])

    def test_nine_coins(self):
        coins = [(lower, (), 10 * lower, (), 0) for lower in range(9, 0, -1)]
        self.assertEqual(dies_of(coins, "lower"), list(range(1, 10)))
        self.assertEqual(dies_of(coins, "upper"), list(range(10, 100, 10)))

    def test_handed_in_stays(self):
        coins = [(9, (), 20, (), 0), (3, (1,), 7, (), 5), (9, (), 20, (), 0)]
        before = copy.deepcopy(coins)
        dies_of(coins, "lower")
        dies_of(coins, "upper")
        self.assertEqual(coins, before)

    def test_told_list_is_new(self):
        coins = [(9, (), 20, (), 0), (3, (1,), 7, (), 5)]
        for side, dies in (("lower", [3, 9]), ("upper", [7, 20])):
            told = dies_of(coins, side)
            told.append(50)
            told[0] = 60
            self.assertEqual(dies_of(coins, side), dies)

    def test_later_change_of_coins_changes_nothing_told(self):
        coins = [(9, (), 20, (), 0), (3, (1,), 7, (), 5)]
        told = dies_of(coins, "lower")
        coins.clear()
        self.assertEqual(told, [3, 9])


class AtOddsTest(unittest.TestCase):
    def test_none(self):
        for coins in (
            [],
            [GOOD],
            [GOOD, GOOD],
            [(1, (), 2, (5,), 0), (1, (3,), 2, (), 0)],
            [(1, (0,), 2, (5,), 0), (3, (1,), 4, (6,), 0)],
            # The same number at the other side is another die.
            [(1, (0,), 2, (1,), 0), (2, (2,), 1, (3,), 0)],
            [(1, tuple(range(many)), 1, tuple(range(8 - many)), 0) for many in range(9)],
        ):
            with self.subTest(coins):
                self.assertIsNone(at_odds(coins))

    def test_lower(self):
        coins = [(1, (0,), 2, (), 0), (1, (1,), 2, (), 0)]
        self.assertEqual(at_odds(coins), ("lower", 0, 1))

    def test_upper(self):
        coins = [(1, (), 2, (0, 1), 0), (1, (), 2, (), 0), (5, (), 2, (1, 2), 0)]
        self.assertEqual(at_odds(coins), ("upper", 0, 2))

    def test_both_sides_lower_first(self):
        coins = [(1, (), 2, (0,), 0), (1, (3,), 2, (1,), 0), (1, (4,), 2, (0, 1), 0)]
        self.assertEqual(at_odds(coins), ("lower", 1, 2))

    def test_least_pair(self):
        # 0 and 3, 1 and 2: the first place counts ahead of the second one.
        coins = [lower_coin(1, (0,)), lower_coin(2, (0,)), lower_coin(2, (1,)), lower_coin(1, (1,))]
        self.assertEqual(at_odds(coins), ("lower", 0, 3))
        coins = [upper_coin(4, (2,)), upper_coin(4, (2,)), upper_coin(4, (3,)), upper_coin(4, (5,))]
        self.assertEqual(at_odds(coins), ("upper", 0, 2))

    def test_nine_coins(self):
        coins = [(9, (), 9, (), 0)] * 7 + [(9, (6,), 9, (), 0), (9, (7,), 9, (), 0)]
        self.assertEqual(at_odds(coins), ("lower", 7, 8))

    def test_told_is_a_tuple(self):
        self.assertIs(type(at_odds([lower_coin(1, (0,)), lower_coin(1, (1,))])), tuple)

    def test_handed_in_stays(self):
        coins = [lower_coin(2, (1,)), lower_coin(1, (0,)), lower_coin(2, (0,))]
        before = copy.deepcopy(coins)
        at_odds(coins)
        self.assertEqual(coins, before)

    def test_all_triples_of_small_coins(self):
        pool = [
            (lower, lower_marks, 1, upper_marks, 0)
            for lower in (1, 2) for lower_marks in SMALL_MARKS for upper_marks in ((0,), (1,), ())
        ]
        for coins in itertools.product(pool, repeat=3):
            pairs = []
            for i, j in ((0, 1), (0, 2), (1, 2)):
                one, other = coins[i], coins[j]
                if one[0] == other[0] and plain_at_odds(one[1], other[1]):
                    pairs.append(("lower", i, j))
                if one[2] == other[2] and plain_at_odds(one[3], other[3]):
                    pairs.append(("upper", i, j))
            self.assertEqual(at_odds(list(coins)), min(pairs, default=None), coins)


class StagesTest(unittest.TestCase):
    def test_one_stage(self):
        for side, make in SIDE_COINS:
            with self.subTest(side):
                self.assertEqual(stages([make(4, (2,))], side, 4), [[0]])
                self.assertEqual(stages([make(4, (2, 3))] * 9, side, 4), [list(range(9))])

    def test_several_as_marks_grow(self):
        for side, make in SIDE_COINS:
            with self.subTest(side):
                coins = [
                    make(4, (0, 5, 7)), make(4, ()), make(9, (1,)), make(4, (5,)),
                    make(4, (0, 5, 7)), make(4, ()), make(4, (5, 7)),
                ]
                self.assertEqual(stages(coins, side, 4), [[1, 5], [3], [6], [0, 4]])
                self.assertEqual(stages(coins, side, 9), [[2]])

    def test_marks_grow_by_what_is_within_and_not_as_tuples_are_ordered(self):
        for side, make in SIDE_COINS:
            with self.subTest(side):
                coins = [make(4, (1, 2, 3)), make(4, (0, 1, 2, 3)), make(4, (3,))]
                self.assertEqual(stages(coins, side, 4), [[2], [0], [1]])

    def test_nine_stages(self):
        for side, make in SIDE_COINS:
            with self.subTest(side):
                coins = [make(99, tuple(range(many, 8))) for many in range(9)]
                self.assertEqual(stages(coins, side, 99), [[k] for k in range(8, -1, -1)])

    def test_none_where_two_are_at_odds(self):
        for side, make in SIDE_COINS:
            with self.subTest(side):
                self.assertIsNone(stages([make(4, (0,)), make(4, (1,))], side, 4))
                coins = [make(4, (0, 2)), make(4, ()), make(4, (0, 1, 2)), make(4, (1, 2))]
                self.assertIsNone(stages(coins, side, 4))

    def test_odds_at_the_other_side_do_not_matter(self):
        coins = [(4, (1,), 6, (0,), 0), (4, (), 6, (1,), 0)]
        self.assertEqual(stages(coins, "lower", 4), [[1], [0]])
        self.assertIsNone(stages(coins, "upper", 6))
        coins = [(4, (0,), 6, (1,), 0), (4, (1,), 6, (), 0)]
        self.assertEqual(stages(coins, "upper", 6), [[1], [0]])
        self.assertIsNone(stages(coins, "lower", 4))

    def test_odds_of_another_die_do_not_matter(self):
        for side, make in SIDE_COINS:
            with self.subTest(side):
                coins = [make(5, (0,)), make(4, (3,)), make(5, (1,)), make(4, ()), make(6, (7,))]
                self.assertIsNone(stages(coins, side, 5))
                self.assertEqual(stages(coins, side, 4), [[3], [1]])
                self.assertEqual(stages(coins, side, 6), [[4]])

    def test_year_does_not_matter(self):
        coins = [(4, (1,), 6, (), 1300), (4, (), 6, (), 1412), (4, (1,), 6, (), 0)]
        self.assertEqual(stages(coins, "lower", 4), [[1], [0, 2]])

    def test_handed_in_stays(self):
        coins = [lower_coin(4, (1, 2)), lower_coin(4, ()), lower_coin(3, (1,))]
        before = copy.deepcopy(coins)
        stages(coins, "lower", 4)
        self.assertEqual(coins, before)

    def test_told_lists_are_new(self):
        coins = [lower_coin(4, (1, 2)), lower_coin(4, ()), lower_coin(4, (1, 2))]
        told = stages(coins, "lower", 4)
        self.assertEqual(told, [[1], [0, 2]])
        self.assertEqual([type(stage) for stage in told], [list, list])
        told[0].append(7)
        told[1][0] = 8
        told.append([9])
        self.assertEqual(stages(coins, "lower", 4), [[1], [0, 2]])

    def test_all_fours_of_small_coins(self):
        pool = [(die, marks) for die in (1, 2) for marks in SMALL_MARKS]
        for row in itertools.product(pool, repeat=4):
            marks = [marks for die, marks in row if die == 1]
            if not marks:
                continue
            odd = any(plain_at_odds(one, other) for one in marks for other in marks)
            for side, make in SIDE_COINS:
                told = stages([make(die, spots) for die, spots in row], side, 1)
                if odd:
                    self.assertIsNone(told, row)
                else:
                    self.assert_stages(row, told)

    def assert_stages(self, row, told):
        places = [place for stage in told for place in stage]
        self.assertEqual(sorted(places), [k for k in range(4) if row[k][0] == 1], row)
        for stage in told:
            self.assertTrue(stage, row)
            self.assertEqual(stage, sorted(stage), row)
            self.assertEqual(len({row[k][1] for k in stage}), 1, row)
        for ahead, behind in zip(told, told[1:]):
            self.assertLess(set(row[ahead[0]][1]), set(row[behind[0]][1]), row)


class ArgumentsTest(unittest.TestCase):
    def test_names(self):
        self.assertIs(good_coin(coin=GOOD), True)
        self.assertEqual(dies_of(side="upper", coins=[GOOD]), [11])
        self.assertIsNone(at_odds(coins=[GOOD]))
        self.assertEqual(stages(die=3, side="lower", coins=[GOOD]), [[0]])


if __name__ == "__main__":
    unittest.main()

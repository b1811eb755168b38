"""Stands: trussel.stands, promises [1] and [9]."""

import copy
import unittest

from plain import (
    GOOD_RULES, PLAIN, RULED, VERY_GREAT, RuleRefusals, plain_may_follow, plain_orders, some_cases,
)
from trussel.errors import BadStand, NoPlace
from trussel.stands import following, may_follow, reached

# Of one lower die, its marks growing with the places: they can be struck in one order alone.
GROWING = [(1, tuple(range(many)), 1, (), 0) for many in range(3)]


def no_stands(coins):
    return (-1, -2, 2 ** len(coins), 2 ** len(coins) + 1, 2 ** 9, VERY_GREAT, -VERY_GREAT)


def no_places(coins):
    return (-1, -len(coins) - 1, len(coins), len(coins) + 1, VERY_GREAT, -VERY_GREAT)


class RefusalsTest(RuleRefusals, unittest.TestCase):
    def asked_with(self, coins, anvils, rules):
        return [
            lambda: may_follow(coins, anvils, rules, 0, 0),
            lambda: may_follow(coins, anvils, rules, -1, 0),
            lambda: may_follow(coins, anvils, rules, VERY_GREAT, VERY_GREAT),
            lambda: may_follow(coins, anvils, rules, 0, -1),
            lambda: following(coins, anvils, rules, 0),
            lambda: following(coins, anvils, rules, -1),
            lambda: following(coins, anvils, rules, VERY_GREAT),
            lambda: reached(coins, anvils, rules),
        ]

    def test_bad_stand_ahead_of_no_place(self):
        for coins in ([], [PLAIN], GROWING, [PLAIN] * 8):
            for stand in no_stands(coins):
                with self.assertRaises(BadStand):
                    following(coins, 1, [], stand)
                for place in (0,) + no_places(coins):
                    with self.assertRaises(BadStand):
                        may_follow(coins, 1, [], stand, place)

    def test_bad_stand_of_nine(self):
        coins = [PLAIN] * 9
        self.assertEqual(following(coins, 1, [], 511), [])
        for stand in (512, 1023, -1):
            with self.assertRaises(BadStand):
                following(coins, 1, [], stand)

    def test_no_place(self):
        for coins in ([], [PLAIN], GROWING, [PLAIN] * 9):
            for stand in (0, 2 ** len(coins) - 1):
                for place in no_places(coins):
                    with self.assertRaises(NoPlace):
                        may_follow(coins, 1, [], stand, place)

    def test_true_and_false_are_no_numbers(self):
        for stand in (True, False):
            with self.assertRaises(BadStand):
                following(GROWING, 1, [], stand)
            with self.assertRaises(BadStand):
                may_follow(GROWING, 1, [], stand, 1)
            with self.assertRaises(NoPlace):
                may_follow(GROWING, 1, [], 1, stand)


class FollowTest(unittest.TestCase):
    def assert_following(self, coins, anvils, rules, stand, told):
        self.assertEqual(following(coins, anvils, rules, stand), told)
        for place in range(len(coins)):
            self.assertIs(may_follow(coins, anvils, rules, stand, place), place in told)

    def test_stand_of_no_coins(self):
        self.assert_following([], 1, [], 0, [])
        self.assert_following([PLAIN], 1, [], 0, [0])
        self.assert_following([PLAIN] * 9, 1, [], 0, list(range(9)))
        # Nothing is ahead, so wear forbids none, though two of them lead nowhere.
        self.assert_following(GROWING, 1, [], 0, [0, 1, 2])

    def test_stand_of_all(self):
        for coins in ([PLAIN], [PLAIN] * 9, GROWING):
            self.assert_following(coins, 1, [], 2 ** len(coins) - 1, [])

    def test_a_coin_of_the_stand(self):
        for stand in range(8):
            for place in range(3):
                if stand & 2 ** place:
                    self.assertIs(may_follow([PLAIN] * 3, 9, [], stand, place), False)
        self.assert_following([PLAIN] * 3, 9, [], 5, [1])

    def test_wear(self):
        self.assert_following(GROWING, 1, [], 1, [1, 2])
        self.assert_following(GROWING, 1, [], 2, [2])
        self.assert_following(GROWING, 1, [], 4, [])
        upper = [(1, (), 1, marks, 0) for lower, marks, *rest in GROWING]
        self.assert_following(upper, 1, [], 2, [2])

    def test_year(self):
        coins = [(1, (), 1, (), year) for year in (1400, 0, 1401, 1400)]
        self.assert_following(coins, 1, [], 4, [1])
        self.assert_following(coins, 1, [], 1, [1, 2, 3])
        self.assert_following(coins, 1, [], 6, [])

    def test_anvil(self):
        coins = [(die, (), 1, (), 0) for die in (1, 2, 1, 2, 3)]
        self.assert_following(coins, 1, [], 0, [0, 1, 2, 3, 4])
        self.assert_following(coins, 1, [], 1, [2])
        self.assert_following(coins, 2, [], 1, [1, 2, 3, 4])
        self.assert_following(coins, 2, [], 3, [2, 3])
        self.assert_following(coins, 3, [], 3, [2, 3, 4])
        self.assert_following(coins, 1, [], 5, [1, 3, 4])

    def test_rule(self):
        self.assert_following([PLAIN] * 3, 1, [("coin", 2, 0)], 0, [1, 2])
        self.assert_following([PLAIN] * 3, 1, [("coin", 2, 0)], 4, [0, 1])
        self.assert_following([PLAIN] * 2, 1, [("coin", 0, 1), ("coin", 1, 0)], 0, [])
        coins = [(1, (), 3, (), 0), (2, (), 4, (), 0), (1, (), 4, (), 0)]
        self.assert_following(coins, 9, [("lower", 1, 2)], 0, [0, 2])
        self.assert_following(coins, 9, [("lower", 1, 2)], 4, [0, 1])
        self.assert_following(coins, 9, [("upper", 4, 3)], 0, [1, 2])
        self.assert_following(coins, 9, [("upper", 4, 3), ("upper", 4, 3)], 2, [0, 2])

    def test_a_stand_that_cannot_be_reached(self):
        # The coins 0 and 1 are at odds, and the rule is not kept by 1: still 2 has no fault behind them.
        coins = [(1, (0,), 1, (), 0), (1, (1,), 1, (), 0), (1, (0, 1), 1, (), 0)]
        rules = [("coin", 2, 1)]
        self.assertNotIn(3, reached(coins, 1, rules))
        self.assert_following(coins, 1, rules, 3, [2])
        # More dies wait than there are anvils, so nothing may follow.
        coins = [(die, (), 1, (), 0) for die in (1, 2, 1, 2)]
        self.assertNotIn(3, reached(coins, 1, []))
        self.assert_following(coins, 1, [], 3, [])

    def test_told_list_is_new_and_handed_in_stays(self):
        handed = [copy.deepcopy(RULED), list(GOOD_RULES)]
        before = copy.deepcopy(handed)
        told = following(handed[0], 2, handed[1], 1)
        self.assertEqual(told, [1, 2])
        told.append(5)
        told[0] = 7
        self.assertEqual(following(handed[0], 2, handed[1], 1), [1, 2])
        may_follow(handed[0], 2, handed[1], 1, 0)
        self.assertEqual(handed, before)

    def test_names(self):
        self.assertEqual(following(stand=0, rules=[], anvils=1, coins=[PLAIN]), [0])
        self.assertIs(may_follow(place=0, stand=0, rules=[], anvils=1, coins=[PLAIN]), True)

    def test_against_the_document_word_by_word(self):
        for coins, anvils, rules in some_cases(150, 5):
            for stand in range(2 ** len(coins)):
                told = [place for place in range(len(coins)) if plain_may_follow(coins, anvils, rules, stand, place)]
                self.assert_following(coins, anvils, rules, stand, told)


class ReachedTest(unittest.TestCase):
    def test_no_coins(self):
        self.assertEqual(reached([], 1, []), [0])

    def test_one(self):
        self.assertEqual(reached([PLAIN], 1, []), [0, 1])

    def test_nine_alike(self):
        self.assertEqual(reached([PLAIN] * 9, 1, []), list(range(512)))

    def test_one_order_alone(self):
        rules = [("coin", k, k + 1) for k in range(8)]
        self.assertEqual(reached([PLAIN] * 9, 1, rules), [2 ** k - 1 for k in range(10)])
        rules = [("coin", k + 1, k) for k in range(8)]
        self.assertEqual(reached([PLAIN] * 9, 1, rules), [0] + [512 - 2 ** k for k in range(8, -1, -1)])

    def test_those_that_lead_nowhere_are_told_too(self):
        self.assertEqual(reached(GROWING, 1, []), list(range(8)))
        coins = [(1, (0,), 1, (), 0), (1, (1,), 1, (), 0)]
        self.assertEqual(reached(coins, 1, []), [0, 1, 2])

    def test_no_order(self):
        rules = [("coin", 0, 1), ("coin", 1, 0)]
        self.assertEqual(reached([PLAIN] * 2, 1, rules), [0])
        self.assertEqual(reached([PLAIN] * 3, 1, rules), [0, 4])

    def test_told_list_is_new_and_handed_in_stays(self):
        handed = [copy.deepcopy(RULED), list(GOOD_RULES)]
        before = copy.deepcopy(handed)
        told = reached(handed[0], 2, handed[1])
        kept = list(told)
        told.append(5)
        told[0] = 7
        self.assertEqual(reached(handed[0], 2, handed[1]), kept)
        self.assertEqual(handed, before)

    def test_names(self):
        self.assertEqual(reached(rules=[], anvils=1, coins=[PLAIN]), [0, 1])

    def test_against_the_document_word_by_word(self):
        for coins, anvils, rules in some_cases(250, 5):
            found = {0}
            for stand in range(2 ** len(coins)):
                for place in range(len(coins)):
                    if stand in found and plain_may_follow(coins, anvils, rules, stand, place):
                        found.add(stand + 2 ** place)
            told = reached(coins, anvils, rules)
            self.assertEqual(told, sorted(found), (coins, anvils, rules))
            there_is_one = plain_orders(coins, anvils, rules) != []
            self.assertEqual(2 ** len(coins) - 1 in told, there_is_one, (coins, anvils, rules))


if __name__ == "__main__":
    unittest.main()

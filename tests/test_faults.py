"""Orders and their faults: trussel.faults, promises [1], [6], [7] and [8]."""

import copy
import itertools
import unittest

from plain import (
    GOOD_RULES, PLAIN, RULED, VERY_GREAT, RuleRefusals, plain_order_fault, some_cases,
)
from trussel.faults import order_fault


def lower_coin(die, marks, year=0):
    return (die, marks, 1, (), year)


def upper_coin(die, marks, year=0):
    return (1, (), die, marks, year)


def year_coin(year):
    return (1, (), 1, (), year)


def dies(*lower):
    return [(die, (), 1, (), 0) for die in lower]


class RefusalsTest(RuleRefusals, unittest.TestCase):
    def asked_with(self, coins, anvils, rules):
        return [
            lambda: order_fault(coins, anvils, rules, []),
            lambda: order_fault(coins, anvils, rules, list(range(len(coins)))),
            lambda: order_fault(coins, anvils, rules, [VERY_GREAT, -1]),
        ]


class ListFaultsTest(unittest.TestCase):
    """What is asked ahead of all: each place, and each once."""

    def test_no_coins(self):
        self.assertIsNone(order_fault([], 1, [], []))
        self.assertEqual(order_fault([], 1, [], [0]), ("many", 1))
        self.assertEqual(order_fault([], 9, [], [VERY_GREAT, 0]), ("many", 2))

    def test_one(self):
        self.assertIsNone(order_fault([PLAIN], 1, [], [0]))
        self.assertEqual(order_fault([PLAIN], 1, [], []), ("many", 0))
        self.assertEqual(order_fault([PLAIN], 1, [], [0, 0]), ("many", 2))
        self.assertEqual(order_fault([PLAIN], 1, [], [1]), ("stranger", 0))

    def test_many_ahead_of_stranger_and_twice(self):
        for order in ([-1, 0, 0, 1], [0, 0], [5, 5], [0] * 200, [VERY_GREAT]):
            self.assertEqual(order_fault([PLAIN] * 3, 1, [], order), ("many", len(order)))

    def test_stranger(self):
        for number in (3, 4, 9, -1, -2, -3, -4, VERY_GREAT, -VERY_GREAT):
            for at in range(3):
                order = [0, 1, 2]
                order[at] = number
                self.assertEqual(order_fault([PLAIN] * 3, 1, [], order), ("stranger", at))

    def test_twice(self):
        for order, at in (([0, 0, 1], 1), ([0, 1, 0], 2), ([2, 1, 1], 2), ([1, 1, 1], 1)):
            self.assertEqual(order_fault([PLAIN] * 3, 1, [], order), ("twice", at))

    def test_the_first_of_stranger_and_twice(self):
        self.assertEqual(order_fault([PLAIN] * 4, 1, [], [0, 0, 4, 1]), ("twice", 1))
        self.assertEqual(order_fault([PLAIN] * 4, 1, [], [0, 4, 0, 1]), ("stranger", 1))
        self.assertEqual(order_fault([PLAIN] * 4, 1, [], [0, 4, 4, 1]), ("stranger", 1))
        self.assertEqual(order_fault([PLAIN] * 4, 1, [], [-1, 0, 0, -1]), ("stranger", 0))

    def test_ahead_of_the_faults_of_coins(self):
        coins = [lower_coin(1, (0,), 1500), lower_coin(1, (), 1400), lower_coin(2, ())]
        rules = [("coin", 2, 0)]
        self.assertEqual(order_fault(coins, 1, rules, [0, 1, 2]), ("rule", 0))
        self.assertEqual(order_fault(coins, 1, rules, [0, 1, 1]), ("twice", 2))
        self.assertEqual(order_fault(coins, 1, rules, [0, 1, 3]), ("stranger", 2))
        self.assertEqual(order_fault(coins, 1, rules, [0, 1]), ("many", 2))

    def test_true_and_false_are_no_places(self):
        self.assertEqual(order_fault([PLAIN] * 2, 1, [], [False, 1]), ("stranger", 0))
        self.assertEqual(order_fault([PLAIN] * 2, 1, [], [0, True]), ("stranger", 1))


class WearTest(unittest.TestCase):
    def test_either_side(self):
        for make in (lower_coin, upper_coin):
            coins = [make(4, (1,)), make(4, ())]
            self.assertEqual(order_fault(coins, 9, [], [0, 1]), ("wear", 1))
            self.assertIsNone(order_fault(coins, 9, [], [1, 0]))

    def test_at_odds_either_way(self):
        for make in (lower_coin, upper_coin):
            coins = [make(4, (0, 1)), make(4, (0, 2))]
            self.assertEqual(order_fault(coins, 9, [], [0, 1]), ("wear", 1))
            self.assertEqual(order_fault(coins, 9, [], [1, 0]), ("wear", 1))

    def test_alike_marks(self):
        for make in (lower_coin, upper_coin):
            self.assertIsNone(order_fault([make(4, (0, 7))] * 9, 1, [], list(range(8, -1, -1))))

    def test_not_only_the_coin_right_ahead(self):
        for make in (lower_coin, upper_coin):
            coins = [make(4, (3,)), make(5, ()), make(6, ()), make(4, ())]
            self.assertEqual(order_fault(coins, 9, [], [0, 1, 2, 3]), ("wear", 3))
            self.assertEqual(order_fault(coins, 9, [], [0, 1, 3, 2]), ("wear", 2))

    def test_of_another_die_or_of_the_other_side(self):
        self.assertIsNone(order_fault([lower_coin(4, (3,)), lower_coin(5, ())], 9, [], [0, 1]))
        self.assertIsNone(order_fault([(4, (3,), 5, (), 0), (5, (), 4, (), 0)], 9, [], [0, 1]))

    def test_a_side_by_itself(self):
        # The lower die says 0 ahead of 1, the upper one the contrary.
        coins = [(1, (), 1, (0,), 0), (1, (0,), 1, (), 0)]
        self.assertEqual(order_fault(coins, 1, [], [0, 1]), ("wear", 1))
        self.assertEqual(order_fault(coins, 1, [], [1, 0]), ("wear", 1))

    def test_the_first_k(self):
        coins = [lower_coin(1, tuple(range(many))) for many in range(9)]
        self.assertIsNone(order_fault(coins, 1, [], list(range(9))))
        self.assertEqual(order_fault(coins, 1, [], [0, 1, 3, 2, 4, 5, 7, 6, 8]), ("wear", 3))
        self.assertEqual(order_fault(coins, 1, [], [1, 2, 3, 4, 5, 6, 7, 8, 0]), ("wear", 8))


class YearTest(unittest.TestCase):
    def test_greater_ahead(self):
        coins = [year_coin(1400), year_coin(1401), year_coin(1400)]
        self.assertIsNone(order_fault(coins, 1, [], [0, 2, 1]))
        self.assertIsNone(order_fault(coins, 1, [], [2, 0, 1]))
        self.assertEqual(order_fault(coins, 1, [], [0, 1, 2]), ("year", 2))
        self.assertEqual(order_fault(coins, 1, [], [1, 0, 2]), ("year", 1))

    def test_a_coin_without_a_year(self):
        for coins in ([year_coin(0), year_coin(1)], [year_coin(9999), year_coin(0)]):
            self.assertIsNone(order_fault(coins, 1, [], [0, 1]))
            self.assertIsNone(order_fault(coins, 1, [], [1, 0]))

    def test_a_coin_without_a_year_between(self):
        coins = [year_coin(9999), year_coin(0), year_coin(1)]
        self.assertEqual(order_fault(coins, 1, [], [0, 1, 2]), ("year", 2))
        self.assertIsNone(order_fault(coins, 1, [], [2, 1, 0]))
        coins = [year_coin(1402), year_coin(1401), year_coin(0)]
        self.assertEqual(order_fault(coins, 1, [], [2, 0, 1]), ("year", 2))

    def test_of_unlike_dies_too(self):
        coins = [(1, (), 2, (), 1401), (3, (), 4, (), 1400)]
        self.assertEqual(order_fault(coins, 9, [], [0, 1]), ("year", 1))


class AnvilTest(unittest.TestCase):
    def test_one_anvil(self):
        coins = dies(1, 2, 1)
        self.assertEqual(order_fault(coins, 1, [], [0, 1, 2]), ("anvil", 1))
        self.assertIsNone(order_fault(coins, 2, [], [0, 1, 2]))
        self.assertIsNone(order_fault(coins, 1, [], [0, 2, 1]))
        self.assertIsNone(order_fault(coins, 1, [], [1, 0, 2]))

    def test_a_die_is_off_behind_its_last_coin(self):
        self.assertIsNone(order_fault(dies(1, 1, 2, 2, 3, 3), 1, [], list(range(6))))
        self.assertIsNone(order_fault(dies(1, 2, 1, 3, 2, 3), 2, [], list(range(6))))

    def test_several_anvils(self):
        for many in range(1, 5):
            lower = list(range(1, many + 1)) * 2
            coins = dies(*lower)
            self.assertIsNone(order_fault(coins, many, [], list(range(2 * many))))
            if many > 1:
                self.assertEqual(order_fault(coins, many - 1, [], list(range(2 * many))), ("anvil", many - 1))

    def test_dies_that_are_waiting_count_where_another_is_struck(self):
        # At number 2 the dies 1 and 2 wait for their second coins, and 3 is struck once.
        coins = dies(1, 2, 3, 1, 2)
        self.assertEqual(order_fault(coins, 2, [], [0, 1, 2, 3, 4]), ("anvil", 2))
        self.assertIsNone(order_fault(coins, 3, [], [0, 1, 2, 3, 4]))

    def test_upper_dies_need_no_anvil(self):
        coins = [(1, (), upper, (), 0) for upper in (1, 2, 3, 1, 2, 3)]
        self.assertIsNone(order_fault(coins, 1, [], list(range(6))))

    def test_all_counts_of_anvils(self):
        coins = dies(*range(1, 10))
        for anvils in range(1, 10):
            self.assertIsNone(order_fault(coins, anvils, [], list(range(8, -1, -1))))


class RuleTest(unittest.TestCase):
    def test_of_coins(self):
        coins = [PLAIN] * 3
        self.assertIsNone(order_fault(coins, 1, [("coin", 2, 0)], [2, 0, 1]))
        self.assertIsNone(order_fault(coins, 1, [("coin", 2, 0)], [2, 1, 0]))
        self.assertEqual(order_fault(coins, 1, [("coin", 2, 0)], [0, 2, 1]), ("rule", 0))
        self.assertEqual(order_fault(coins, 1, [("coin", 2, 0)], [1, 0, 2]), ("rule", 1))

    def test_of_lower_dies(self):
        self.assert_rule_of_dies("lower", [(die, (), 9, (), 0) for die in (5, 6, 7, 6, 5)])

    def test_of_upper_dies(self):
        self.assert_rule_of_dies("upper", [(9, (), die, (), 0) for die in (5, 6, 7, 6, 5)])

    def assert_rule_of_dies(self, word, coins):
        rules = [(word, 5, 6)]
        # The first coin of 5 is ahead; another one may come behind.
        self.assertIsNone(order_fault(coins, 9, rules, [0, 1, 3, 2, 4]))
        self.assertIsNone(order_fault(coins, 9, rules, [2, 4, 3, 0, 1]))
        self.assertEqual(order_fault(coins, 9, rules, [1, 0, 3, 2, 4]), ("rule", 0))
        self.assertEqual(order_fault(coins, 9, rules, [2, 3, 4, 0, 1]), ("rule", 1))
        self.assertIsNone(order_fault(coins, 9, [(word, 7, 5)], [2, 0, 1, 3, 4]))
        self.assertEqual(order_fault(coins, 9, [(word, 7, 5)], [1, 3, 0, 2, 4]), ("rule", 2))

    def test_a_die_of_a_side_is_not_that_of_the_other(self):
        coins = [(5, (), 6, (), 0), (6, (), 5, (), 0)]
        self.assertIsNone(order_fault(coins, 9, [("lower", 5, 6)], [0, 1]))
        self.assertEqual(order_fault(coins, 9, [("upper", 5, 6)], [0, 1]), ("rule", 0))

    def test_a_rule_twice(self):
        rules = [("coin", 1, 0), ("coin", 1, 0)]
        self.assertIsNone(order_fault([PLAIN] * 2, 1, rules, [1, 0]))
        self.assertEqual(order_fault([PLAIN] * 2, 1, rules, [0, 1]), ("rule", 0))

    def test_two_that_gainsay_one_another(self):
        rules = [("coin", 1, 0), ("coin", 0, 1)]
        self.assertEqual(order_fault([PLAIN] * 3, 1, rules, [0, 1, 2]), ("rule", 0))
        self.assertEqual(order_fault([PLAIN] * 3, 1, rules, [2, 1, 0]), ("rule", 1))
        for word in ("lower", "upper"):
            first, second = {"lower": (1, 2), "upper": (3, 4)}[word]
            rules = [(word, first, second), (word, second, first)]
            self.assertEqual(order_fault(RULED, 9, rules, [0, 1, 2]), ("rule", 0))

    def test_each_of_several_rules_is_asked(self):
        rules = [("coin", 0, 1), ("coin", 1, 2), ("coin", 2, 3)]
        self.assertIsNone(order_fault([PLAIN] * 4, 1, rules, [0, 1, 2, 3]))
        for order in itertools.permutations(range(4)):
            if order != (0, 1, 2, 3):
                self.assertEqual(order_fault([PLAIN] * 4, 1, rules, list(order))[0], "rule")


class SeveralFaultsTest(unittest.TestCase):
    def test_all_four_at_one_coin(self):
        # Of one anvil, at number 1: the die 1 waits for its coin 2, and the coin 1 is of the die 2.
        rules = [("coin", 2, 1)]
        for marks, year, anvils, used, fault in (
            ((), 1400, 1, rules, "wear"), ((4,), 1400, 1, rules, "year"), ((4,), 0, 1, rules, "anvil"),
            ((4,), 0, 2, rules, "rule"), ((), 1500, 1, [], "wear"), ((4,), 1400, 2, [], "year"),
            ((4,), 1500, 1, [], "anvil"),
        ):
            coins = [(1, (), 7, (4,), 1500), (2, (), 7, marks, year), (1, (), 8, (), 0)]
            self.assertEqual(order_fault(coins, anvils, used, [0, 1, 2]), (fault, 1))
        coins = [(1, (), 7, (4,), 1500), (2, (), 7, (4,), 0), (1, (), 8, (), 0)]
        self.assertIsNone(order_fault(coins, 2, [], [0, 1, 2]))

    def test_the_first_k_ahead_of_the_first_name(self):
        # A rule at 0, an anvil at 1, a year at 2, a wear at 3.
        coins = [(1, (), 1, (5,), 1500), (2, (), 2, (), 1500), (1, (), 3, (), 1400), (3, (), 1, (), 0)]
        order = [0, 1, 2, 3]
        self.assertEqual(order_fault(coins, 1, [("coin", 1, 0)], order), ("rule", 0))
        self.assertEqual(order_fault(coins, 1, [], order), ("anvil", 1))
        self.assertEqual(order_fault(coins, 2, [], order), ("year", 2))
        coins[2] = (1, (), 3, (), 0)
        self.assertEqual(order_fault(coins, 2, [], order), ("wear", 3))
        coins[3] = (3, (), 4, (), 0)
        self.assertIsNone(order_fault(coins, 2, [], order))


class ToldTest(unittest.TestCase):
    def test_told_is_a_tuple(self):
        for order in ([0], [0, 1, 9], [0, 0, 1], [2, 0, 1]):
            self.assertIs(type(order_fault(RULED, 1, [], order)), tuple)

    def test_handed_in_stays(self):
        for order in ([0, 1, 2], [2, 1, 0], [0, 0, 1], [0, 7, 1], [1]):
            handed = [copy.deepcopy(RULED), list(GOOD_RULES), list(order)]
            before = copy.deepcopy(handed)
            order_fault(handed[0], 2, handed[1], handed[2])
            self.assertEqual(handed, before)

    def test_names(self):
        self.assertIsNone(order_fault(order=[0], rules=[], anvils=1, coins=[PLAIN]))

    def test_against_the_document_word_by_word(self):
        words = set()
        for coins, anvils, rules in some_cases(400, 5):
            for order in itertools.permutations(range(len(coins))):
                fault = plain_order_fault(coins, anvils, rules, list(order))
                self.assertEqual(order_fault(coins, anvils, rules, list(order)), fault, (coins, anvils, rules, order))
                words.add(fault and fault[0])
        self.assertEqual(words, {None, "wear", "year", "anvil", "rule"})


if __name__ == "__main__":
    unittest.main()

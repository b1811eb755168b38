"""The fewest anvils: trussel.anvils, promises [1] and [12]."""

import copy
import time
import unittest

from plain import (
    BAD_COIN, GOOD_RULES, NO_RULES, PLAIN, RULED, CoinRefusals, plain_bars, plain_order_fault, plain_orders, some_cases,
)
from trussel.anvils import fewest
from trussel.errors import BadCoin, BadRule, NoOrder
from trussel.papers import bars

AT_ODDS = [(1, (0,), 1, (), 0), (1, (1,), 1, (), 0)]
GAINSAID = [("coin", 0, 1), ("coin", 1, 0)]


def in_turn(*lower):
    """Coins of these lower dies, struck just in this order."""
    return [(die, (), 1, (), year) for year, die in enumerate(lower, 1)]


class RefusalsTest(CoinRefusals, unittest.TestCase):
    def asked(self, coins):
        return [
            lambda: fewest(coins, []),
            lambda: fewest(coins, [NO_RULES[0]]),
            lambda: fewest(coins, GAINSAID),
        ]

    def test_bad_rule(self):
        for rule in NO_RULES:
            for rules in ([rule], GOOD_RULES + [rule], [rule] + GOOD_RULES):
                before = copy.deepcopy([RULED, rules])
                with self.assertRaises(BadRule):
                    fewest(RULED, rules)
                self.assertEqual([RULED, rules], before)

    def test_no_rule_for_no_coins_or_for_one(self):
        for rule in GOOD_RULES:
            for coins in ([], [PLAIN]):
                with self.assertRaises(BadRule):
                    fewest(coins, [rule])

    def test_bad_rule_ahead_of_no_order(self):
        with self.assertRaises(BadRule):
            fewest(AT_ODDS, [("coin", 0, 2)])
        with self.assertRaises(BadRule):
            fewest([PLAIN] * 2, GAINSAID + [("coin", 0, 0)])

    def test_bad_coin_ahead_of_no_order(self):
        self.assert_coins_refused(AT_ODDS + [BAD_COIN], BadCoin)

    def test_no_order(self):
        for coins, rules in (
            (AT_ODDS, []),
            ([(1, (), 1, (0,), 0), (2, (), 1, (1,), 0)], []),
            ([(1, (), 1, (), 1401), (1, (0,), 1, (), 1400)], []),
            ([PLAIN] * 2, GAINSAID),
            (RULED, [("lower", 1, 2), ("lower", 2, 1)]),
            (RULED, [("upper", 3, 4), ("upper", 4, 3)]),
            ([PLAIN] * 9, [("coin", at, (at + 1) - 9 * (at == 8)) for at in range(9)]),
            (in_turn(1, 2, 1), [("coin", 2, 0)]),
        ):
            before = copy.deepcopy([coins, rules])
            with self.assertRaises(NoOrder):
                fewest(coins, rules)
            self.assertEqual([coins, rules], before)


class FewestTest(unittest.TestCase):
    def assert_fewest(self, coins, rules, count):
        told = fewest(coins, rules)
        self.assertIsInstance(told, tuple)
        self.assertEqual(len(told), 3)
        self.assertEqual(told[0], count)
        self.assertIsInstance(told[1], list)
        self.assertEqual(sorted(told[1]), list(range(len(coins))))
        self.assertIsNone(plain_order_fault(coins, count, rules, told[1]))
        if count == 1:
            self.assertIsNone(told[2])
        else:
            self.assertIsInstance(told[2], list)
            self.assertTrue(plain_bars(coins, count - 1, rules, told[2]), (coins, rules, told))
            self.assertIs(bars(coins, count - 1, rules, told[2]), True)

    def test_no_coins(self):
        self.assertEqual(fewest([], []), (1, [], None))

    def test_one(self):
        self.assertEqual(fewest([PLAIN], []), (1, [0], None))

    def test_one_anvil(self):
        self.assert_fewest([PLAIN] * 9, [], 1)
        self.assert_fewest([(die, (), 1, (), 0) for die in (1, 2, 3) * 3], [], 1)
        self.assert_fewest([(die, (), 1, (), 0) for die in range(1, 10)], [], 1)
        self.assert_fewest(in_turn(1, 1, 2, 2, 3, 4, 4), [], 1)

    def test_two_anvils(self):
        self.assert_fewest(in_turn(1, 2, 1), [], 2)
        self.assert_fewest(in_turn(1, 2, 1, 2, 3, 2, 3, 4, 3), [], 2)

    def test_more_anvils(self):
        self.assert_fewest(in_turn(1, 2, 3, 1, 2, 3), [], 3)
        self.assert_fewest(in_turn(1, 2, 3, 4, 1, 2, 3, 4), [], 4)
        self.assert_fewest(in_turn(1, 2, 3, 4, 4, 3, 2, 1), [], 4)
        # Nine coins never want more: of the dies in use at once all but one have two coins.
        self.assert_fewest(in_turn(1, 2, 3, 4, 5, 1, 2, 3, 4), [], 5)

    def test_by_upper_marks(self):
        coins = [(die, (), 1, tuple(range(at)), 0) for at, die in enumerate((1, 2, 1))]
        self.assert_fewest(coins, [], 2)

    def test_by_rules(self):
        coins = [(die, (), 1, (), 0) for die in (1, 2, 1)]
        self.assert_fewest(coins, [], 1)
        self.assert_fewest(coins, [("coin", 0, 1)], 1)
        self.assert_fewest(coins, [("coin", 0, 1), ("coin", 1, 2)], 2)
        self.assert_fewest(coins, [("coin", 0, 1), ("coin", 1, 2)] * 2, 2)

    def test_against_all_orders(self):
        counts = set()
        for coins, anvils, rules in some_cases(400, 5):
            good = [count for count in range(1, 5) if plain_orders(coins, count, rules)]
            if good:
                counts.add(good[0])
                self.assert_fewest(coins, rules, good[0])
            else:
                counts.add(None)
                with self.assertRaises(NoOrder):
                    fewest(coins, rules)
        self.assertEqual(counts, {1, 2, None})

    def test_names(self):
        self.assertEqual(fewest(rules=[], coins=[PLAIN]), (1, [0], None))


class ToldTest(unittest.TestCase):
    def test_told_lists_are_new_and_handed_in_stays(self):
        coins = in_turn(1, 2, 3, 1, 2, 3)
        rules = [("coin", 0, 5), ("lower", 1, 2)]
        before = copy.deepcopy([coins, rules])
        told = fewest(coins, rules)
        kept = copy.deepcopy(told)
        told[1].append(7)
        told[1][0] = 9
        told[2].clear()
        self.assertEqual(fewest(coins, rules), kept)
        self.assertEqual([coins, rules], before)

    def test_later_change_changes_nothing_told(self):
        coins = in_turn(1, 2, 1)
        rules = [("coin", 0, 1)]
        told = fewest(coins, rules)
        kept = copy.deepcopy(told)
        coins.pop()
        rules.append(("coin", 0, 1))
        self.assertEqual(told, kept)
        self.assertEqual(fewest(coins, rules), (1, [0, 1], None))

    def test_nine_quickly(self):
        begun = time.process_time()
        rules = [("coin", 0, 8)] * 40
        for coins in (in_turn(1, 2, 3, 4, 5, 1, 2, 3, 4), [PLAIN] * 9, in_turn(*range(1, 10))):
            fewest(coins, rules)
        with self.assertRaises(NoOrder):
            fewest([(die, (), 1, (), 0) for die in range(1, 10)], GAINSAID)
        self.assertLess(time.process_time() - begun, 10)


if __name__ == "__main__":
    unittest.main()

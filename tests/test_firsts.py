"""What every order tells of two coins or dies: trussel.firsts, promises [1], [7] and [13]."""

import copy
import itertools
import time
import unittest

from plain import (
    GOOD_RULES, PLAIN, RULED, VERY_GREAT, RuleRefusals, plain_bars, plain_order_fault, plain_orders, some_cases,
)
from trussel.errors import BadSide, NoDie, NoOrder, NoPlace, SameOne
from trussel.firsts import told_of, why_of
from trussel.papers import bars

NO_WORDS = ("", "Coin", "coin ", " lower", "LOWER", "coins", "both", "die", "low", "upperlower")
FIELDS = {"lower": 0, "upper": 2}
AT_ODDS = [(1, (0,), 5, (), 0), (1, (1,), 6, (), 0), (2, (), 5, (), 0)]
GAINSAID = [("coin", 0, 1), ("coin", 1, 0)]

# Lower dies 1 and 2, upper dies 3 and 4; the coins of 1 are the earlier ones, by their years.
YEARS = [(2, (), 3, (), 1402), (1, (), 4, (), 1400), (1, (), 3, (), 1401)]


def things_of(coins, word):
    if word == "coin":
        return list(range(len(coins)))
    return sorted({coin[FIELDS[word]] for coin in coins})


def begins(coins, order, word, thing):
    """At which number of an order a coin was struck, or a die came into use."""
    if word == "coin":
        return order.index(thing)
    return [coins[place][FIELDS[word]] for place in order].index(thing)


def is_ahead(coins, order, word, one, other):
    return begins(coins, order, word, one) < begins(coins, order, word, other)


def plain_told(coins, orders, word, one, other):
    ahead = {is_ahead(coins, order, word, one, other) for order in orders}
    return {(True,): "first", (False,): "later", (False, True): "either"}[tuple(sorted(ahead))]


class RefusalsTest(RuleRefusals, unittest.TestCase):
    def asked_with(self, coins, anvils, rules):
        asked = (("coin", 0, 1), ("none", 0, 0), ("coin", -1, VERY_GREAT), ("upper", 55, 55), ("coin", 0, 0))
        return [
            lambda ask=ask, row=row: ask(coins, anvils, rules, *row) for ask in (told_of, why_of) for row in asked
        ]

    def assert_told_refused(self, coins, rules, row, refusal):
        before = copy.deepcopy([coins, rules])
        for ask in (told_of, why_of):
            with self.assertRaises(refusal, msg=row):
                ask(coins, 2, rules, *row)
        self.assertEqual([coins, rules], before)

    def test_bad_side_ahead_of_all_behind_it(self):
        for word in NO_WORDS:
            for one, other in ((0, 1), (1, 1), (-1, 5), (VERY_GREAT, VERY_GREAT)):
                self.assert_told_refused(RULED, [], (word, one, other), BadSide)
                self.assert_told_refused(AT_ODDS, [], (word, one, other), BadSide)
                self.assert_told_refused([], [], (word, one, other), BadSide)

    def test_no_place_ahead_of_same_one_and_no_order(self):
        for coins, rules in (([], []), ([PLAIN], []), (RULED, GOOD_RULES), (AT_ODDS, []), ([PLAIN] * 9, GAINSAID)):
            many = len(coins)
            for place in (-1, -2, -many - 1, many, many + 1, 99, VERY_GREAT, -VERY_GREAT):
                self.assert_told_refused(coins, rules, ("coin", place, place), NoPlace)
                for good in range(many):
                    self.assert_told_refused(coins, rules, ("coin", place, good), NoPlace)
                    self.assert_told_refused(coins, rules, ("coin", good, place), NoPlace)

    def test_no_die_ahead_of_same_one_and_no_order(self):
        for coins, rules in (([], []), ([PLAIN], []), (RULED, GOOD_RULES), (AT_ODDS, []), ([PLAIN] * 9, GAINSAID)):
            for word in ("lower", "upper"):
                dies = things_of(coins, word)
                for die in (0, -1, 7, 99, 100, VERY_GREAT, -VERY_GREAT):
                    self.assert_told_refused(coins, rules, (word, die, die), NoDie)
                    for good in dies:
                        self.assert_told_refused(coins, rules, (word, die, good), NoDie)
                        self.assert_told_refused(coins, rules, (word, good, die), NoDie)

    def test_a_die_of_the_other_side_is_none(self):
        self.assert_told_refused(RULED, [], ("lower", 1, 3), NoDie)
        self.assert_told_refused(RULED, [], ("lower", 4, 2), NoDie)
        self.assert_told_refused(RULED, [], ("upper", 1, 2), NoDie)
        self.assert_told_refused(RULED, [], ("upper", 3, 1), NoDie)

    def test_same_one_ahead_of_no_order(self):
        for coins, rules in (([PLAIN], []), (RULED, GOOD_RULES), (AT_ODDS, []), ([PLAIN] * 9, GAINSAID)):
            for word in ("coin", "lower", "upper"):
                for thing in things_of(coins, word):
                    self.assert_told_refused(coins, rules, (word, thing, thing), SameOne)

    def test_no_order(self):
        one_anvil_fewer = [(die, (), die, (), year) for year, die in enumerate((1, 2, 3, 1, 2, 3), 1)]
        wear_and_year = [(1, (), 1, (), 1401), (1, (0,), 2, (), 1400), (2, (), 3, (), 0)]
        for coins, rules in (
            (AT_ODDS, []), (RULED, GAINSAID), (one_anvil_fewer, []), (wear_and_year, []),
            (RULED, [("lower", 1, 2), ("lower", 2, 1)]), (RULED, [("upper", 4, 3), ("upper", 3, 4)] * 2),
        ):
            for word in ("coin", "lower", "upper"):
                for one, other in itertools.permutations(things_of(coins, word), 2):
                    self.assert_told_refused(coins, rules, (word, one, other), NoOrder)

    def test_true_and_false_are_no_places_and_no_dies(self):
        self.assert_told_refused(RULED, [], ("coin", True, 0), NoPlace)
        self.assert_told_refused(RULED, [], ("coin", 1, False), NoPlace)
        self.assert_told_refused(RULED, [], ("lower", True, 2), NoDie)
        self.assert_told_refused(RULED, [], ("lower", 2, True), NoDie)


class ToldTest(unittest.TestCase):
    def assert_shown(self, coins, anvils, rules, row, told):
        """That what shows it does so, by the document's words."""
        word, one, other = row
        why = why_of(coins, anvils, rules, word, one, other)
        self.assertIsInstance(why, tuple)
        self.assertEqual(why[0], told, (coins, anvils, rules, row))
        if told == "either":
            tag, one_order, other_order = why
            for order in (one_order, other_order):
                self.assertIsInstance(order, list)
                self.assertEqual(sorted(order), list(range(len(coins))))
                self.assertIsNone(plain_order_fault(coins, anvils, rules, order))
            self.assertTrue(is_ahead(coins, one_order, word, one, other))
            self.assertTrue(is_ahead(coins, other_order, word, other, one))
        else:
            tag, paper = why
            more = (word, other, one) if told == "first" else (word, one, other)
            self.assertIsInstance(paper, list)
            self.assertTrue(plain_bars(coins, anvils, rules + [more], paper), (coins, rules, why))
            self.assertIs(bars(coins, anvils, rules + [more], paper), True)

    def assert_told(self, coins, anvils, rules, row, told):
        word, one, other = row
        back = {"first": "later", "later": "first", "either": "either"}[told]
        self.assertEqual(told_of(coins, anvils, rules, word, one, other), told)
        self.assertEqual(told_of(coins, anvils, rules, word, other, one), back)
        self.assert_shown(coins, anvils, rules, (word, one, other), told)
        self.assert_shown(coins, anvils, rules, (word, other, one), back)

    def test_coins(self):
        self.assert_told(YEARS, 1, [], ("coin", 1, 0), "first")
        self.assert_told(YEARS, 1, [], ("coin", 0, 2), "later")
        self.assert_told([PLAIN] * 3, 1, [], ("coin", 0, 2), "either")
        self.assert_told([PLAIN] * 3, 1, [("coin", 0, 1)], ("coin", 0, 2), "either")
        self.assert_told([PLAIN] * 3, 1, [("coin", 0, 1), ("coin", 1, 2)], ("coin", 0, 2), "first")

    def test_coins_by_wear(self):
        coins = [(1, (0,), 1, (), 0), (1, (), 2, (), 0), (2, (), 1, (), 0)]
        self.assert_told(coins, 2, [], ("coin", 0, 1), "later")
        self.assert_told(coins, 2, [], ("coin", 0, 2), "either")
        # On one anvil the die 1 is used up ahead of the coin 2, or not begun behind it.
        self.assert_told(coins, 1, [("coin", 1, 2)], ("coin", 0, 2), "first")
        self.assert_told(coins, 2, [("coin", 1, 2)], ("coin", 0, 2), "either")

    def test_lower_dies(self):
        self.assert_told(YEARS, 1, [], ("lower", 1, 2), "first")
        self.assert_told(YEARS, 1, [], ("lower", 2, 1), "later")
        self.assert_told(RULED, 2, [], ("lower", 1, 2), "either")
        self.assert_told(RULED, 2, [("lower", 2, 1)], ("lower", 1, 2), "later")

    def test_upper_dies(self):
        # The die 3 comes into use by the place 2, not by the place 0.
        self.assert_told(YEARS, 1, [], ("upper", 4, 3), "first")
        self.assert_told(YEARS, 1, [], ("upper", 3, 4), "later")
        coins = [(1, (), 3, (), 1400), (1, (), 4, (), 1401), (1, (), 3, (), 1402)]
        self.assert_told(coins, 1, [], ("upper", 3, 4), "first")
        self.assert_told([(1, (), 3, (), 1), (1, (), 4, (), 1)], 1, [], ("upper", 3, 4), "either")

    def test_a_die_comes_into_use_by_its_first_coin(self):
        # One coin of die 1 is the first of all, the other the last: the die is first.
        coins = [(1, (), 1, (), 1400), (2, (), 1, (), 1401), (1, (), 1, (), 1402)]
        self.assert_told(coins, 2, [], ("lower", 1, 2), "first")
        self.assert_told(coins, 2, [], ("coin", 2, 1), "later")

    def test_what_rules_say_already(self):
        self.assert_told(RULED, 9, [("lower", 1, 2)], ("lower", 1, 2), "first")
        self.assert_told(RULED, 9, [("upper", 4, 3)] * 2, ("upper", 3, 4), "later")
        self.assert_told([PLAIN] * 2, 9, [("coin", 1, 0)], ("coin", 0, 1), "later")

    def test_against_all_orders(self):
        seen = set()
        for coins, anvils, rules in some_cases(250, 5):
            orders = plain_orders(coins, anvils, rules)
            for word in ("coin", "lower", "upper"):
                for one, other in itertools.permutations(things_of(coins, word), 2):
                    if orders:
                        told = plain_told(coins, orders, word, one, other)
                        seen.add((word, told))
                        self.assertEqual(told_of(coins, anvils, rules, word, one, other), told)
                        self.assert_shown(coins, anvils, rules, (word, one, other), told)
                    else:
                        with self.assertRaises(NoOrder):
                            told_of(coins, anvils, rules, word, one, other)
        self.assertEqual(len(seen), 9)

    def test_names(self):
        asked = {"other": 1, "one": 0, "word": "coin", "rules": [], "anvils": 1, "coins": [PLAIN] * 2}
        self.assertEqual(told_of(**asked), "either")
        self.assertEqual(why_of(**asked)[0], "either")


class NewListsTest(unittest.TestCase):
    def test_told_lists_are_new_and_handed_in_stays(self):
        for handed, row in (
            ([copy.deepcopy(YEARS), [("coin", 1, 0)]], ("coin", 1, 2)),
            ([copy.deepcopy(YEARS), [("coin", 1, 0)]], ("upper", 3, 4)),
            ([copy.deepcopy(RULED), [("coin", 0, 2)]], ("lower", 1, 2)),
        ):
            before = copy.deepcopy(handed)
            told = why_of(handed[0], 2, handed[1], *row)
            kept = copy.deepcopy(told)
            for shown in told[1:]:
                shown.append(77)
                shown[0] = 55
            self.assertEqual(why_of(handed[0], 2, handed[1], *row), kept)
            told_of(handed[0], 2, handed[1], *row)
            self.assertEqual(handed, before)

    def test_later_change_changes_nothing_told(self):
        coins = [PLAIN] * 2
        rules = []
        told = why_of(coins, 1, rules, "coin", 0, 1)
        kept = copy.deepcopy(told)
        rules.append(("coin", 0, 1))
        self.assertEqual(told, kept)
        self.assertEqual(told_of(coins, 1, rules, "coin", 0, 1), "first")
        coins[0] = (2, (), 1, (), 0)
        self.assertEqual(told, kept)

    def test_nine_quickly(self):
        begun = time.process_time()
        rules = [("coin", 0, 8)] * 40
        for one, other in itertools.permutations(range(9), 2):
            told_of([PLAIN] * 9, 9, rules, "coin", one, other)
            why_of([PLAIN] * 9, 1, rules, "coin", one, other)
        self.assertLess(time.process_time() - begun, 30)


if __name__ == "__main__":
    unittest.main()

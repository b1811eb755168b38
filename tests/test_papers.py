"""Papers, which show that there is no order: trussel.papers, promises [1] and [11]."""

import copy
import itertools
import time
import unittest

from plain import (
    GOOD_RULES, PLAIN, RULED, VERY_GREAT, RuleRefusals, plain_bars, plain_orders, some_cases,
)
from trussel.papers import bars, paper_of

# Each has no order, by another of the faults alone.
AT_ODDS_LOWER = ([(1, (0,), 1, (), 0), (1, (1,), 2, (), 0)], 9, [])
AT_ODDS_UPPER = ([(1, (), 1, (0,), 0), (2, (), 1, (1,), 0)], 9, [])
WEAR_AND_YEAR = ([(1, (), 1, (), 1401), (1, (0,), 1, (), 1400)], 1, [])
ONE_ANVIL_FEWER = ([(die, (), 1, (), year) for die, year in ((1, 1), (2, 2), (1, 3), (2, 4))], 1, [])
COINS_GAINSAID = ([PLAIN] * 3, 1, [("coin", 0, 1), ("coin", 1, 0)])
DIES_GAINSAID = (RULED, 9, [("lower", 1, 2), ("lower", 2, 1)])
ROUND = ([PLAIN] * 4, 2, [("coin", 0, 1), ("coin", 1, 2), ("coin", 2, 0)])
WITHOUT_ORDER = (
    AT_ODDS_LOWER, AT_ODDS_UPPER, WEAR_AND_YEAR, ONE_ANVIL_FEWER, COINS_GAINSAID, DIES_GAINSAID, ROUND,
)

WITH_ORDER = (
    ([], 1, []), ([], 9, []), ([PLAIN], 1, []), ([PLAIN] * 9, 1, []), (RULED, 2, GOOD_RULES),
    ([PLAIN] * 3, 1, [("coin", 2, 0)] * 2), (ONE_ANVIL_FEWER[0], 2, []),
)


class RefusalsTest(RuleRefusals, unittest.TestCase):
    def asked_with(self, coins, anvils, rules):
        return [
            lambda: paper_of(coins, anvils, rules),
            lambda: bars(coins, anvils, rules, []),
            lambda: bars(coins, anvils, rules, [0]),
            lambda: bars(coins, anvils, rules, [VERY_GREAT, -1, -1]),
        ]


class PaperTest(unittest.TestCase):
    def test_none_where_there_is_an_order(self):
        for coins, anvils, rules in WITH_ORDER:
            self.assertIsNone(paper_of(coins, anvils, rules))

    def test_a_paper_where_there_is_no_order(self):
        for coins, anvils, rules in WITHOUT_ORDER:
            paper = paper_of(coins, anvils, rules)
            self.assertIsInstance(paper, list)
            self.assertTrue(plain_bars(coins, anvils, rules, paper), (coins, paper))
            self.assertIs(bars(coins, anvils, rules, paper), True)

    def test_against_all_orders(self):
        told = {True: 0, False: 0}
        for coins, anvils, rules in some_cases(400, 5):
            paper = paper_of(coins, anvils, rules)
            has_order = plain_orders(coins, anvils, rules) != []
            told[has_order] += 1
            self.assertEqual(paper is None, has_order, (coins, anvils, rules))
            if paper is not None:
                self.assertTrue(plain_bars(coins, anvils, rules, paper), (coins, anvils, rules))
                self.assertIs(bars(coins, anvils, rules, paper), True)
        self.assertGreater(min(told.values()), 50)

    def test_told_list_is_new_and_handed_in_stays(self):
        for case in WITHOUT_ORDER:
            coins, anvils, rules = copy.deepcopy(case)
            told = paper_of(coins, anvils, rules)
            kept = list(told)
            told.append(7)
            told[0] = 5
            self.assertEqual(paper_of(coins, anvils, rules), kept)
            self.assertEqual((coins, anvils, rules), case)
            coins.clear()
            rules.clear()
            self.assertEqual(told[1:-1], kept[1:])
            self.assertIsNone(paper_of(coins, anvils, rules))

    def test_names(self):
        self.assertIsNone(paper_of(rules=[], anvils=1, coins=[PLAIN]))
        self.assertIs(bars(stands=[0], rules=[], anvils=1, coins=[PLAIN]), False)


class BarsTest(unittest.TestCase):
    def assert_bars(self, case, stands, told):
        before = list(stands)
        self.assertIs(bars(*case, stands), told, (case, stands))
        self.assertEqual(stands, before)

    def test_good_papers(self):
        self.assert_bars(AT_ODDS_LOWER, [0, 1, 2], True)
        self.assert_bars(AT_ODDS_UPPER, [0, 1, 2], True)
        self.assert_bars(COINS_GAINSAID, [0, 4], True)

    def test_a_paper_may_have_more_than_what_is_reached(self):
        self.assert_bars(COINS_GAINSAID, [0, 4, 5], False)
        self.assert_bars(COINS_GAINSAID, [0, 3, 4], False)
        self.assert_bars(ROUND, [0, 8], True)
        self.assert_bars(ROUND, [0, 8, 9], False)
        self.assert_bars(ROUND, [0, 2, 6, 7, 8, 14], False)
        # No row of coins leads to the stand of 0, 1 and 2, and behind them 3 has a fault: it may stand there.
        coins = [(1, (0,), 1, (), 0), (1, (1,), 1, (), 0), (1, (0,), 1, (), 5), (1, (0,), 1, (), 4)]
        case = (coins, 1, [])
        self.assertNotIn(7, paper_of(*case))
        self.assert_bars(case, sorted(paper_of(*case) + [7]), True)

    def test_the_empty_list(self):
        for case in WITHOUT_ORDER + WITH_ORDER:
            self.assert_bars(case, [], False)

    def test_no_coins_have_no_paper(self):
        for stands in ([], [0], [0, 0], [0, 1], [1], [-1], [-1, 0], [VERY_GREAT]):
            self.assert_bars(([], 1, []), stands, False)

    def test_where_there_is_an_order_there_is_no_paper(self):
        for case in (([PLAIN], 1, []), ([PLAIN] * 2, 1, [("coin", 1, 0)]), (RULED, 2, GOOD_RULES)):
            stands = range(2 ** len(case[0]))
            for many in range(len(stands) + 1):
                for some in itertools.combinations(stands, many):
                    self.assert_bars(case, list(some), False)

    def test_a_stand_taken_out(self):
        for case in (AT_ODDS_LOWER, AT_ODDS_UPPER, ONE_ANVIL_FEWER, COINS_GAINSAID, ROUND):
            paper = paper_of(*case)
            self.assertGreater(len(paper), 1)
            for at in range(len(paper)):
                self.assert_bars(case, paper[:at] + paper[at + 1:], False)

    def test_a_stand_put_in(self):
        for case in WITHOUT_ORDER:
            paper = paper_of(*case)
            for stand in range(2 ** len(case[0])):
                if stand not in paper:
                    wider = sorted(paper + [stand])
                    self.assert_bars(case, wider, plain_bars(*case, wider))

    def test_a_stand_twice(self):
        for case in WITHOUT_ORDER:
            paper = paper_of(*case)
            for at, stand in enumerate(paper):
                self.assert_bars(case, paper[:at] + [stand] + paper[at:], False)
                if at + 1 < len(paper):
                    self.assert_bars(case, paper + [stand], False)

    def test_two_exchanged(self):
        for case in (AT_ODDS_LOWER, AT_ODDS_UPPER, ONE_ANVIL_FEWER, COINS_GAINSAID, ROUND):
            paper = paper_of(*case)
            for one, other in itertools.combinations(range(len(paper)), 2):
                stands = list(paper)
                stands[one], stands[other] = stands[other], stands[one]
                self.assert_bars(case, stands, False)

    def test_without_the_stand_of_no_coins(self):
        for case in WITHOUT_ORDER:
            self.assert_bars(case, paper_of(*case)[1:], False)
        # Nothing may follow there, so only the stand of no coins is missed.
        self.assert_bars(AT_ODDS_LOWER, [1, 2], False)
        self.assert_bars(AT_ODDS_LOWER, [1], False)

    def test_with_the_stand_of_all_coins(self):
        for case in WITHOUT_ORDER + WITH_ORDER:
            every = 2 ** len(case[0]) - 1
            self.assert_bars(case, (paper_of(*case) or []) + [every], False)
            self.assert_bars(case, list(range(every + 1)), False)

    def test_numbers_that_are_no_stands(self):
        for case in WITHOUT_ORDER:
            every = 2 ** len(case[0]) - 1
            paper = paper_of(*case)
            for number in (-1, -2, -VERY_GREAT):
                self.assert_bars(case, [number] + paper, False)
                self.assert_bars(case, [number] + paper[1:], False)
            for number in (every + 1, every + 2, 512, 1023, VERY_GREAT):
                self.assert_bars(case, paper + [number], False)
                self.assert_bars(case, [number], False)

    def test_true_and_false_are_no_stands(self):
        self.assert_bars(AT_ODDS_LOWER, [False, 1, 2], False)
        self.assert_bars(AT_ODDS_LOWER, [0, True, 2], False)

    def test_for_other_anvils_or_rules_it_may_be_none(self):
        coins, anvils, rules = ONE_ANVIL_FEWER
        paper = paper_of(coins, anvils, rules)
        for more in range(2, 10):
            self.assert_bars((coins, more, rules), paper, False)
        coins, anvils, rules = ROUND
        self.assert_bars((coins, anvils, rules[:2]), paper_of(coins, anvils, rules), False)

    def test_each_list_of_stands_against_the_document(self):
        good = 0
        for coins, anvils, rules in some_cases(120, 3):
            stands = range(2 ** len(coins))
            for many in range(len(stands) + 1):
                for some in itertools.combinations(stands, many):
                    told = bars(coins, anvils, rules, list(some))
                    self.assertIs(told, plain_bars(coins, anvils, rules, list(some)), (coins, anvils, rules, some))
                    good += told
        self.assertGreater(good, 50)

    def test_handed_in_stays_and_may_change_afterwards(self):
        coins, anvils, rules = copy.deepcopy(COINS_GAINSAID)
        stands = [0, 4]
        self.assertIs(bars(coins, anvils, rules, stands), True)
        self.assertEqual((coins, anvils, rules), COINS_GAINSAID)
        rules.pop()
        self.assertIs(bars(coins, anvils, rules, stands), False)
        self.assertEqual(stands, [0, 4])


class NineTest(unittest.TestCase):
    def test_quickly(self):
        coins = [(1 + at % 3, (), 1 + at // 3, (), 0) for at in range(9)]
        rules = [("coin", 7, 8), ("coin", 8, 7)] * 20
        begun = time.process_time()
        for anvils in (1, 2, 3, 9):
            paper = paper_of(coins, anvils, rules)
            self.assertIs(bars(coins, anvils, rules, paper), True)
            self.assertIs(bars(coins, anvils, rules, paper[:-1]), False)
            self.assertIsNone(paper_of(coins, anvils, []))
        self.assertIs(bars([PLAIN] * 9, 1, rules, list(range(128))), True)
        self.assertLess(time.process_time() - begun, 10)


if __name__ == "__main__":
    unittest.main()

"""The orders and their numbers: trussel.orders, promises [1] and [10]."""

import copy
import itertools
import time
import unittest

from plain import GOOD_RULES, PLAIN, RULED, VERY_GREAT, RuleRefusals, plain_orders, some_cases
from trussel.errors import BadNumber
from trussel.orders import how_many, least_order, number_of, order_of

NINE = [PLAIN] * 9
AT_ODDS = [(1, (0,), 1, (), 0), (1, (1,), 1, (), 0)]
GAINSAID = [("coin", 0, 1), ("coin", 1, 0)]


class RefusalsTest(RuleRefusals, unittest.TestCase):
    def asked_with(self, coins, anvils, rules):
        return [
            lambda: least_order(coins, anvils, rules),
            lambda: how_many(coins, anvils, rules),
            lambda: order_of(coins, anvils, rules, 0),
            lambda: order_of(coins, anvils, rules, -1),
            lambda: order_of(coins, anvils, rules, VERY_GREAT),
            lambda: number_of(coins, anvils, rules, list(range(len(coins)))),
            lambda: number_of(coins, anvils, rules, [-1]),
            lambda: number_of(coins, anvils, rules, [VERY_GREAT] * 20),
        ]

    def test_bad_number(self):
        for coins, rules, count in (
            ([], [], 1), ([PLAIN], [], 1), ([PLAIN] * 3, [], 6), (NINE, [], 362880), (AT_ODDS, [], 0),
            ([PLAIN] * 2, GAINSAID, 0), ([PLAIN] * 3, [("coin", 2, 0)], 3),
        ):
            before = copy.deepcopy([coins, rules])
            for number in (count, count + 1, -1, -count - 1, VERY_GREAT, -VERY_GREAT):
                with self.assertRaises(BadNumber):
                    order_of(coins, 1, rules, number)
            self.assertEqual([coins, rules], before)

    def test_true_and_false_are_no_numbers(self):
        for number in (True, False):
            with self.assertRaises(BadNumber):
                order_of([PLAIN] * 3, 1, [], number)


class OrdersTest(unittest.TestCase):
    def assert_orders(self, coins, anvils, rules, orders):
        self.assertEqual(how_many(coins, anvils, rules), len(orders))
        self.assertEqual(least_order(coins, anvils, rules), orders[0] if orders else None)
        told = [order_of(coins, anvils, rules, number) for number in range(len(orders))]
        self.assertEqual(told, orders, (coins, anvils, rules))
        self.assertEqual([number_of(coins, anvils, rules, order) for order in orders], list(range(len(orders))))

    def test_no_coins(self):
        for anvils in (1, 9):
            self.assert_orders([], anvils, [], [[]])

    def test_one(self):
        self.assert_orders([PLAIN], 1, [], [[0]])
        self.assert_orders([(99, (0, 7), 99, (), 9999)], 9, [], [[0]])

    def test_alike(self):
        for many in range(2, 5):
            orders = [list(order) for order in itertools.permutations(range(many))]
            self.assert_orders([PLAIN] * many, 1, [], orders)

    def test_no_order(self):
        for coins, anvils, rules in (
            (AT_ODDS, 9, []),
            ([PLAIN] * 2, 1, GAINSAID),
            ([(1, (), 1, (), 1401), (1, (0,), 1, (), 1400)], 1, []),
            ([(1, (), 1, (), 1), (2, (), 1, (), 2), (1, (), 1, (), 3)], 1, []),
            (RULED, 9, [("lower", 1, 2), ("lower", 2, 1)]),
        ):
            self.assert_orders(coins, anvils, rules, [])
            with self.assertRaises(BadNumber):
                order_of(coins, anvils, rules, 0)
            for order in itertools.permutations(range(len(coins))):
                self.assertIsNone(number_of(coins, anvils, rules, list(order)))

    def test_the_least_first_step_may_lead_nowhere(self):
        # 0 may be struck first, but then 1 never: the only order begins with 1.
        coins = [(1, (0,), 1, (), 0), (1, (), 1, (), 0)]
        self.assert_orders(coins, 1, [], [[1, 0]])

    def test_anvils(self):
        coins = [(die, (), 1, (), 0) for die in (1, 2, 1)]
        self.assert_orders(coins, 1, [], [[0, 2, 1], [1, 0, 2], [1, 2, 0], [2, 0, 1]])
        self.assertEqual(how_many(coins, 2, []), 6)

    def test_rules(self):
        self.assert_orders([PLAIN] * 3, 1, [("coin", 2, 0)], [[1, 2, 0], [2, 0, 1], [2, 1, 0]])
        self.assert_orders([PLAIN] * 3, 1, [("coin", 2, 0)] * 2, [[1, 2, 0], [2, 0, 1], [2, 1, 0]])

    def test_against_all_orders(self):
        counts = set()
        for coins, anvils, rules in some_cases(400, 5):
            orders = plain_orders(coins, anvils, rules)
            counts.add(len(orders))
            self.assert_orders(coins, anvils, rules, orders)
        self.assertTrue({0, 1, 2, 3, 6} <= counts)

    def test_number_of_each_list(self):
        for coins, anvils, rules in some_cases(60, 4):
            orders = plain_orders(coins, anvils, rules)
            numbers = range(-1, len(coins) + 1)
            for order in itertools.product(numbers, repeat=len(coins)):
                number = orders.index(list(order)) if list(order) in orders else None
                self.assertEqual(number_of(coins, anvils, rules, list(order)), number)

    def test_names(self):
        self.assertEqual(least_order(rules=[], anvils=1, coins=[PLAIN]), [0])
        self.assertEqual(how_many(rules=[], anvils=1, coins=[PLAIN]), 1)
        self.assertEqual(order_of(number=0, rules=[], anvils=1, coins=[PLAIN]), [0])
        self.assertEqual(number_of(order=[0], rules=[], anvils=1, coins=[PLAIN]), 0)


class NumberOfNoOrderTest(unittest.TestCase):
    def test_many(self):
        for order in ([], [0], [0, 1], [0, 1, 2, 3], [VERY_GREAT] * 20):
            self.assertIsNone(number_of([PLAIN] * 3, 1, [], order))
        self.assertIsNone(number_of([], 1, [], [0]))

    def test_stranger(self):
        for number in (-1, 3, VERY_GREAT, -VERY_GREAT):
            self.assertIsNone(number_of([PLAIN] * 3, 1, [], [0, number, 2]))

    def test_twice(self):
        self.assertIsNone(number_of([PLAIN] * 3, 1, [], [0, 1, 0]))

    def test_wear(self):
        coins = [(1, (0,), 1, (), 0), (1, (), 1, (), 0)]
        self.assertIsNone(number_of(coins, 1, [], [0, 1]))
        coins = [(1, (), 1, (0,), 0), (1, (), 1, (), 0)]
        self.assertIsNone(number_of(coins, 1, [], [0, 1]))

    def test_year(self):
        self.assertIsNone(number_of([(1, (), 1, (), 2), (1, (), 1, (), 1)], 1, [], [0, 1]))

    def test_anvil(self):
        self.assertIsNone(number_of([(die, (), 1, (), 0) for die in (1, 2, 1)], 1, [], [0, 1, 2]))

    def test_rule(self):
        self.assertIsNone(number_of([PLAIN] * 2, 1, [("coin", 1, 0)], [0, 1]))
        self.assertIsNone(number_of(RULED, 9, [("lower", 2, 1)], [0, 1, 2]))
        self.assertIsNone(number_of(RULED, 9, [("upper", 4, 3)], [0, 1, 2]))


class NineTest(unittest.TestCase):
    def test_alike(self):
        self.assertEqual(how_many(NINE, 1, []), 362880)
        self.assertEqual(least_order(NINE, 1, []), list(range(9)))
        self.assertEqual(order_of(NINE, 1, [], 362879), list(range(8, -1, -1)))
        self.assertEqual(number_of(NINE, 1, [], list(range(8, -1, -1))), 362879)

    def test_some_numbers_of_alike_ones(self):
        for number in range(0, 362880, 30011):
            order = order_of(NINE, 9, [], number)
            self.assertEqual(order, nth(number))
            self.assertEqual(number_of(NINE, 9, [], order), number)

    def test_rules_halve(self):
        self.assertEqual(how_many(NINE, 1, [("coin", 8, 0)]), 181440)
        self.assertEqual(how_many(NINE, 1, [("coin", 8, 0), ("coin", 1, 2)]), 90720)
        self.assertEqual(order_of(NINE, 1, [("coin", 8, 0)], 181439), list(range(8, -1, -1)))

    def test_unlike_lower_dies_in_blocks(self):
        # With one anvil the coins of a die are struck one behind the other.
        coins = [(die, (), 1, (), 0) for die in (1, 2, 3) * 3]
        self.assertEqual(how_many(coins, 1, []), 6 * 6 ** 3)
        self.assertEqual(how_many(coins, 3, []), 362880)
        self.assertEqual(least_order(coins, 1, []), [0, 3, 6, 1, 4, 7, 2, 5, 8])

    def test_stand_by_stand(self):
        # Going through all orders for each of these would take minutes.
        rules = [("coin", i, j) for i in range(4) for j in range(4, 9)] * 20
        begun = time.process_time()
        for number in range(10):
            for used in ([], rules):
                how_many(NINE, 9, used)
                least_order(NINE, 9, used)
                number_of(NINE, 9, used, order_of(NINE, 9, used, number))
        self.assertLess(time.process_time() - begun, 20)


def nth(number):
    """The permutation of nine of that number, by its figures to the bases nine to one."""
    left = list(range(9))
    order = []
    size = 362880
    for many in range(9, 0, -1):
        size //= many
        order.append(left.pop(number // size))
        number %= size
    return order


class ToldTest(unittest.TestCase):
    def test_told_lists_are_new_and_handed_in_stays(self):
        handed = [copy.deepcopy(RULED), list(GOOD_RULES)]
        before = copy.deepcopy(handed)
        for ask in (
            lambda: least_order(handed[0], 2, handed[1]),
            lambda: order_of(handed[0], 2, handed[1], 0),
        ):
            told = ask()
            self.assertEqual(told, [0, 1, 2])
            told.append(5)
            told[0] = 7
            self.assertEqual(ask(), [0, 1, 2])
        self.assertEqual(how_many(handed[0], 2, handed[1]), 1)
        self.assertEqual(handed, before)

    def test_order_handed_in_stays(self):
        for order in ([0, 2, 1], [2, 1, 0], [5, 5, 5], [0]):
            handed = list(order)
            number_of(RULED, 2, GOOD_RULES, handed)
            self.assertEqual(handed, order)

    def test_later_change_changes_nothing_told(self):
        coins = [PLAIN] * 2
        told = least_order(coins, 1, [])
        coins.clear()
        self.assertEqual(told, [0, 1])
        self.assertEqual(least_order(coins, 1, []), [])


if __name__ == "__main__":
    unittest.main()

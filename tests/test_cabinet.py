"""A cabinet: trussel.cabinet, promises [1] and [17]."""

import itertools
import random
import time
import unittest

from plain import BAD_COIN, NO_ANVILS, PLAIN, VERY_GREAT, plain_orders
from trussel.anvils import fewest
from trussel.cabinet import Cabinet
from trussel.errors import BadAnvils, BadCoin, BadList, BadSide, Full, MintError, NoCoin, NoDie, NoFact, NoOrder, SameOne
from trussel.firsts import told_of
from trussel.orders import how_many, least_order
from trussel.papers import bars, paper_of

NO_SIDES = ("", "Lower", "upper ", "coin", "both")
BAD_COINS = (
    BAD_COIN, (0, (), 1, (), 0), (1, (8,), 1, (), 0), (1, (), 1, (1, 0), 0), (1, (), 1, (), 10000),
    (1, (), 1, (), -1), (VERY_GREAT, (), 1, (), 0), (True, (), 1, (), 0),
)
NEVER_NUMBERS = (0, -1, -2, 10, VERY_GREAT, -VERY_GREAT, True, False)
FIELDS = {"lower": 0, "upper": 2}


def cabinet_of(*coins):
    cabinet = Cabinet()
    for coin in coins:
        cabinet.put(coin)
    return cabinet


def small_cabinet():
    """Coins 1, 2, 4, 5; facts 2 and 3; coin 3 and fact 1 are gone."""
    cabinet = cabinet_of(
        (1, (), 3, (), 0), (1, (0,), 4, (), 1400), PLAIN, (2, (), 3, (1,), 0), (1, (), 5, (), 0),
    )
    cabinet.tell(3, 1)
    cabinet.tell(1, 4)
    cabinet.tell(4, 5)
    cabinet.out(3)
    return cabinet


def seen(cabinet):
    return [cabinet.numbers(), cabinet.coins(), cabinet.facts()]


def rules_of(cabinet):
    """The facts as rules, by the document's words."""
    numbers = cabinet.numbers()
    return [("coin", numbers.index(one), numbers.index(other)) for number, one, other in cabinet.facts()]


class CabinetCase(unittest.TestCase):
    def assert_refused(self, cabinet, refusal, deed, *things):
        before = seen(cabinet)
        with self.assertRaises(refusal, msg=things) as caught:
            deed(*things)
        self.assertIs(type(caught.exception), refusal)
        self.assertEqual(seen(cabinet), before)

    def assert_answers(self, cabinet):
        """That all questions answer as the functions of lists do."""
        coins, numbers, rules = cabinet.coins(), cabinet.numbers(), rules_of(cabinet)
        for anvils in (1, 2, 9):
            order = least_order(coins, anvils, rules)
            named = None if order is None else [numbers[place] for place in order]
            self.assertEqual(cabinet.order(anvils), named)
            self.assertEqual(cabinet.many(anvils), how_many(coins, anvils, rules))
            paper = cabinet.paper(anvils)
            self.assertEqual(paper is None, paper_of(coins, anvils, rules) is None)
            if paper is not None:
                self.assertTrue(bars(coins, anvils, rules, paper))
            for one, other in itertools.permutations(numbers, 2):
                places = (numbers.index(one), numbers.index(other))
                if order is None:
                    self.assert_refused(cabinet, NoOrder, cabinet.told, anvils, one, other)
                else:
                    told = told_of(coins, anvils, rules, "coin", *places)
                    self.assertEqual(cabinet.told(anvils, one, other), told)
        try:
            count = fewest(coins, rules)[0]
        except NoOrder:
            count = None
        self.assertEqual(cabinet.fewest(), count)


class PutTest(CabinetCase):
    def test_a_new_cabinet(self):
        cabinet = Cabinet()
        self.assertEqual(seen(cabinet), [[], [], []])
        self.assertEqual((cabinet.order(1), cabinet.many(1), cabinet.paper(1), cabinet.fewest()), ([], 1, None, 1))

    def test_numbers_from_one_on(self):
        cabinet = Cabinet()
        coins = [(1 + at, (), 9 - at, (), 0) for at in range(9)]
        self.assertEqual([cabinet.put(coin) for coin in coins], list(range(1, 10)))
        self.assertEqual(cabinet.numbers(), list(range(1, 10)))
        self.assertEqual(cabinet.coins(), coins)
        self.assertEqual([cabinet.coin(number) for number in range(1, 10)], coins)

    def test_alike_ones(self):
        cabinet = cabinet_of(PLAIN, PLAIN)
        self.assertEqual(cabinet.coins(), [PLAIN, PLAIN])

    def test_bad_coin_ahead_of_full(self):
        for cabinet in (Cabinet(), small_cabinet(), cabinet_of(*[PLAIN] * 9)):
            for coin in BAD_COINS:
                self.assert_refused(cabinet, BadCoin, cabinet.put, coin)

    def test_full(self):
        cabinet = cabinet_of(*[PLAIN] * 9)
        self.assert_refused(cabinet, Full, cabinet.put, PLAIN)
        cabinet.out(4)
        # Neither the refused one nor the one that was struck out leaves its number to another.
        self.assertEqual(cabinet.put(PLAIN), 10)
        self.assert_refused(cabinet, Full, cabinet.put, PLAIN)

    def test_no_number_is_given_again(self):
        cabinet = Cabinet()
        for number in range(1, 60):
            self.assertEqual(cabinet.put(PLAIN), number)
            self.assert_refused(cabinet, BadCoin, cabinet.put, BAD_COIN)
            if number % 3:
                cabinet.out(number)
            elif len(cabinet.numbers()) == 9:
                cabinet.out(cabinet.numbers()[0])
        self.assertEqual(cabinet.numbers(), [36, 39, 42, 45, 48, 51, 54, 57])


class RightTest(CabinetCase):
    def test_another_coin_is_there(self):
        cabinet = small_cabinet()
        facts = cabinet.facts()
        new = (7, (0, 7), 8, (), 12)
        self.assertEqual(cabinet.right(2, new), (1, (0,), 4, (), 1400))
        self.assertEqual(cabinet.coin(2), new)
        self.assertEqual(cabinet.right(2, PLAIN), new)
        self.assertEqual(cabinet.right(4, new), (2, (), 3, (1,), 0))
        self.assertEqual(cabinet.numbers(), [1, 2, 4, 5])
        self.assertEqual(cabinet.coins(), [(1, (), 3, (), 0), PLAIN, new, (1, (), 5, (), 0)])
        self.assertEqual(cabinet.facts(), facts)
        self.assert_answers(cabinet)

    def test_no_coin_ahead_of_bad_coin(self):
        cabinet = small_cabinet()
        for number in NEVER_NUMBERS + (3, 6):
            self.assert_refused(cabinet, NoCoin, cabinet.right, number, PLAIN)
            self.assert_refused(cabinet, NoCoin, cabinet.right, number, BAD_COIN)
        for coin in BAD_COINS:
            self.assert_refused(cabinet, BadCoin, cabinet.right, 4, coin)


class OutTest(CabinetCase):
    def test_the_coin_and_its_facts_go(self):
        cabinet = cabinet_of((1, (), 1, (), 0), (2, (), 2, (), 0), (3, (), 3, (), 0), (4, (), 4, (), 0))
        for one, other in ((1, 2), (2, 3), (3, 4), (4, 2), (1, 3), (1, 2)):
            cabinet.tell(one, other)
        self.assertEqual(cabinet.out(2), (2, (), 2, (), 0))
        self.assertEqual(cabinet.numbers(), [1, 3, 4])
        self.assertEqual(cabinet.facts(), [(3, 3, 4), (5, 1, 3)])
        for number in (1, 2, 4, 6):
            self.assert_refused(cabinet, NoFact, cabinet.untell, number)
        self.assertEqual(cabinet.tell(4, 1), 7)
        self.assertEqual(cabinet.out(4), (4, (), 4, (), 0))
        self.assertEqual(cabinet.facts(), [(5, 1, 3)])
        self.assertEqual(cabinet.put(PLAIN), 5)
        self.assert_answers(cabinet)

    def test_no_coin(self):
        cabinet = small_cabinet()
        for number in NEVER_NUMBERS + (3, 6):
            self.assert_refused(cabinet, NoCoin, cabinet.out, number)
            self.assert_refused(cabinet, NoCoin, cabinet.coin, number)
        cabinet.out(5)
        self.assert_refused(cabinet, NoCoin, cabinet.out, 5)

    def test_all_out(self):
        cabinet = small_cabinet()
        for number in (4, 1, 5, 2):
            cabinet.out(number)
        self.assertEqual(seen(cabinet), [[], [], []])
        self.assertEqual(cabinet.put(PLAIN), 6)


class FactsTest(CabinetCase):
    def test_numbers_from_one_on_none_again(self):
        cabinet = cabinet_of(PLAIN, PLAIN, PLAIN)
        self.assertEqual([cabinet.tell(1, 2), cabinet.tell(3, 1), cabinet.tell(2, 3)], [1, 2, 3])
        self.assertEqual(cabinet.untell(3), (2, 3))
        self.assertEqual(cabinet.untell(1), (1, 2))
        self.assertEqual(cabinet.facts(), [(2, 3, 1)])
        self.assertEqual(cabinet.tell(1, 2), 4)
        self.assertEqual(cabinet.facts(), [(2, 3, 1), (4, 1, 2)])
        self.assert_refused(cabinet, SameOne, cabinet.tell, 1, 1)
        self.assertEqual(cabinet.tell(1, 2), 5)

    def test_one_that_stands_already_and_its_contrary(self):
        cabinet = cabinet_of(PLAIN, PLAIN)
        self.assertEqual([cabinet.tell(1, 2), cabinet.tell(1, 2), cabinet.tell(2, 1)], [1, 2, 3])
        self.assertEqual(cabinet.facts(), [(1, 1, 2), (2, 1, 2), (3, 2, 1)])
        self.assertIsNone(cabinet.order(9))
        self.assertIsNone(cabinet.fewest())
        cabinet.untell(3)
        self.assertEqual(cabinet.order(9), [1, 2])
        cabinet.untell(1)
        self.assertEqual(cabinet.many(9), 1)
        cabinet.untell(2)
        self.assertEqual(cabinet.many(9), 2)

    def test_no_coin_ahead_of_same_one(self):
        cabinet = small_cabinet()
        for number in NEVER_NUMBERS + (3, 6):
            self.assert_refused(cabinet, NoCoin, cabinet.tell, number, 1)
            self.assert_refused(cabinet, NoCoin, cabinet.tell, 1, number)
            self.assert_refused(cabinet, NoCoin, cabinet.tell, number, number)
        for number in (1, 2, 4, 5):
            self.assert_refused(cabinet, SameOne, cabinet.tell, number, number)
        self.assertEqual(cabinet.tell(1, 2), 4)

    def test_no_fact(self):
        cabinet = small_cabinet()
        for number in NEVER_NUMBERS + (1, 4):
            self.assert_refused(cabinet, NoFact, cabinet.untell, number)
        self.assertEqual(cabinet.untell(2), (1, 4))
        self.assert_refused(cabinet, NoFact, cabinet.untell, 2)
        one = cabinet_of(PLAIN, PLAIN)
        one.tell(2, 1)
        for number in (True, False):
            self.assert_refused(one, NoFact, one.untell, number)

    def test_many_facts(self):
        cabinet = cabinet_of(*[PLAIN] * 9)
        for turn in range(300):
            self.assertEqual(cabinet.tell(1, 9), turn + 1)
        self.assertEqual(cabinet.many(1), 181440)
        self.assertEqual(cabinet.facts()[-1], (300, 1, 9))


class OneDieTest(CabinetCase):
    def test_all_coins_of_the_other_get_the_ones_number(self):
        cabinet = small_cabinet()
        self.assertEqual(cabinet.one_die("lower", 2, 1), [1, 2, 5])
        self.assertEqual([coin[0] for coin in cabinet.coins()], [2, 2, 2, 2])
        self.assertEqual(
            cabinet.coins(), [(2, (), 3, (), 0), (2, (0,), 4, (), 1400), (2, (), 3, (1,), 0), (2, (), 5, (), 0)],
        )
        self.assertEqual(cabinet.one_die("upper", 3, 5), [5])
        self.assertEqual([coin[2] for coin in cabinet.coins()], [3, 4, 3, 3])
        self.assertEqual(cabinet.one_die("upper", 4, 3), [1, 4, 5])
        self.assertEqual([coin[2] for coin in cabinet.coins()], [4, 4, 4, 4])
        self.assertEqual(cabinet.facts(), [(2, 1, 4), (3, 4, 5)])
        self.assert_answers(cabinet)

    def test_one_side_alone(self):
        cabinet = cabinet_of((1, (), 2, (), 0), (2, (), 1, (), 0))
        self.assertEqual(cabinet.one_die("lower", 1, 2), [2])
        self.assertEqual(cabinet.coins(), [(1, (), 2, (), 0), (1, (), 1, (), 0)])

    def test_refusals(self):
        cabinet = small_cabinet()
        for side in NO_SIDES:
            self.assert_refused(cabinet, BadSide, cabinet.one_die, side, 1, 2)
            self.assert_refused(cabinet, BadSide, cabinet.one_die, side, 99, 99)
        for die in (0, -1, 3, 99, 100, VERY_GREAT, True):
            self.assert_refused(cabinet, NoDie, cabinet.one_die, "lower", die, 1)
            self.assert_refused(cabinet, NoDie, cabinet.one_die, "lower", 2, die)
            self.assert_refused(cabinet, NoDie, cabinet.one_die, "lower", die, die)
        self.assert_refused(cabinet, NoDie, cabinet.one_die, "upper", 1, 3)
        self.assert_refused(cabinet, NoDie, cabinet.one_die, "upper", 3, 2)
        for side, die in (("lower", 1), ("lower", 2), ("upper", 3), ("upper", 5)):
            self.assert_refused(cabinet, SameOne, cabinet.one_die, side, die, die)
        empty = Cabinet()
        self.assert_refused(empty, NoDie, empty.one_die, "lower", 1, 2)

    def test_a_die_of_a_coin_struck_out_is_none(self):
        cabinet = small_cabinet()
        cabinet.out(4)
        self.assert_refused(cabinet, NoDie, cabinet.one_die, "lower", 1, 2)


class TwoDiesTest(CabinetCase):
    def test_the_least_free_number(self):
        cabinet = cabinet_of(*[(1, (), 1, (), 0)] * 9)
        self.assertEqual(cabinet.two_dies("lower", 1, [9]), 2)
        self.assertEqual(cabinet.two_dies("lower", 1, [3, 2]), 3)
        self.assertEqual([coin[0] for coin in cabinet.coins()], [1, 3, 3, 1, 1, 1, 1, 1, 2])
        self.assertEqual(cabinet.one_die("lower", 3, 1), [1, 4, 5, 6, 7, 8])
        self.assertEqual(cabinet.two_dies("lower", 3, [1]), 1)
        self.assertEqual(cabinet.two_dies("lower", 3, [8, 4]), 4)
        self.assertEqual([coin[0] for coin in cabinet.coins()], [1, 3, 3, 4, 3, 3, 3, 4, 2])
        self.assertEqual([coin[2] for coin in cabinet.coins()], [1] * 9)

    def test_nought_is_no_number_of_a_die(self):
        cabinet = cabinet_of((99, (), 50, (), 0), (99, (1,), 50, (), 7))
        self.assertEqual(cabinet.two_dies("lower", 99, [2]), 1)
        self.assertEqual(cabinet.two_dies("upper", 50, [1]), 1)
        self.assertEqual(cabinet.coins(), [(99, (), 1, (), 0), (1, (1,), 50, (), 7)])

    def test_of_that_side_alone(self):
        cabinet = cabinet_of((2, (), 1, (), 0), (2, (), 1, (), 0))
        self.assertEqual(cabinet.two_dies("lower", 2, [1]), 1)
        self.assertEqual(cabinet.two_dies("upper", 1, [1]), 2)
        self.assertEqual(cabinet.coins(), [(1, (), 2, (), 0), (2, (), 1, (), 0)])

    def test_up_to_nine_dies(self):
        cabinet = cabinet_of(*[(1, (), 1, (), 0)] * 9)
        for number in range(2, 10):
            self.assertEqual(cabinet.two_dies("upper", 1, [number]), number)
        self.assert_refused(cabinet, BadList, cabinet.two_dies, "upper", 1, [1])

    def test_handed_list_stays(self):
        cabinet = small_cabinet()
        numbers = [5, 1]
        self.assertEqual(cabinet.two_dies("lower", 1, numbers), 3)
        self.assertEqual(numbers, [5, 1])
        numbers.append(2)
        self.assertEqual([coin[0] for coin in cabinet.coins()], [3, 1, 2, 3])
        self.assertEqual(cabinet.facts(), [(2, 1, 4), (3, 4, 5)])
        self.assert_answers(cabinet)

    def test_refusals(self):
        cabinet = small_cabinet()
        for side in NO_SIDES:
            self.assert_refused(cabinet, BadSide, cabinet.two_dies, side, 1, [1])
            self.assert_refused(cabinet, BadSide, cabinet.two_dies, side, 99, [])
        for die in (0, -1, 3, 99, VERY_GREAT, True):
            self.assert_refused(cabinet, NoDie, cabinet.two_dies, "lower", die, [1])
            self.assert_refused(cabinet, NoDie, cabinet.two_dies, "lower", die, [99, 99])
            self.assert_refused(cabinet, NoDie, cabinet.two_dies, "lower", die, [])
        # The coin 4 is there, but of another die.
        for number in NEVER_NUMBERS + (3, 4, 6):
            self.assert_refused(cabinet, NoCoin, cabinet.two_dies, "lower", 1, [number])
            self.assert_refused(cabinet, NoCoin, cabinet.two_dies, "lower", 1, [1, 1, number])
            self.assert_refused(cabinet, NoCoin, cabinet.two_dies, "lower", 1, [number, number])
            self.assert_refused(cabinet, NoCoin, cabinet.two_dies, "lower", 1, [1, 2, 5, number])
        for numbers in (
            [], [1, 1], [1, 2, 1], [1, 2, 5], [5, 2, 1], [1, 2, 5, 5], [1, 1, 1], [5, 5, 5, 5], [2] * 100,
        ):
            self.assert_refused(cabinet, BadList, cabinet.two_dies, "lower", 1, numbers)
        self.assert_refused(cabinet, BadList, cabinet.two_dies, "lower", 2, [4])
        self.assert_refused(cabinet, BadList, cabinet.two_dies, "lower", 2, [])
        self.assert_refused(cabinet, BadList, cabinet.two_dies, "upper", 3, [1, 4])


class QuestionsTest(CabinetCase):
    def test_bad_anvils_first(self):
        for cabinet in (Cabinet(), small_cabinet(), cabinet_of((1, (0,), 1, (), 0), (1, (1,), 1, (), 0))):
            for anvils in NO_ANVILS + (True, False):
                self.assert_refused(cabinet, BadAnvils, cabinet.order, anvils)
                self.assert_refused(cabinet, BadAnvils, cabinet.many, anvils)
                self.assert_refused(cabinet, BadAnvils, cabinet.paper, anvils)
                for one, other in ((1, 2), (1, 1), (99, 99), (-1, VERY_GREAT)):
                    self.assert_refused(cabinet, BadAnvils, cabinet.told, anvils, one, other)

    def test_told_refusals_in_their_order(self):
        at_odds = cabinet_of((1, (0,), 1, (), 0), (1, (1,), 1, (), 0))
        for cabinet in (small_cabinet(), at_odds):
            for number in NEVER_NUMBERS + (3, 6):
                self.assert_refused(cabinet, NoCoin, cabinet.told, 1, number, 1)
                self.assert_refused(cabinet, NoCoin, cabinet.told, 1, 1, number)
                self.assert_refused(cabinet, NoCoin, cabinet.told, 1, number, number)
            self.assert_refused(cabinet, SameOne, cabinet.told, 1, 2, 2)
        self.assert_refused(at_odds, NoOrder, at_odds.told, 9, 1, 2)
        empty = Cabinet()
        self.assert_refused(empty, NoCoin, empty.told, 1, 0, 0)

    def test_told_by_numbers(self):
        cabinet = small_cabinet()
        self.assertEqual(cabinet.order(2), [1, 4, 5, 2])
        self.assertEqual(cabinet.told(2, 1, 4), "first")
        self.assertEqual(cabinet.told(2, 5, 1), "later")
        self.assertEqual(cabinet.told(2, 5, 2), "first")
        cabinet.right(2, PLAIN)
        self.assertEqual(cabinet.told(2, 2, 5), "either")

    def test_fewest_and_paper(self):
        cabinet = small_cabinet()
        self.assertIsNone(cabinet.order(1))
        self.assertEqual(cabinet.many(1), 0)
        self.assertTrue(bars(cabinet.coins(), 1, rules_of(cabinet), cabinet.paper(1)))
        self.assertIsNone(cabinet.paper(2))
        self.assertEqual(cabinet.fewest(), 2)
        cabinet.tell(5, 1)
        self.assertIsNone(cabinet.fewest())
        self.assert_answers(cabinet)

    def test_the_least_order(self):
        cabinet = cabinet_of(PLAIN, PLAIN, PLAIN)
        cabinet.out(1)
        cabinet.put(PLAIN)
        cabinet.tell(4, 2)
        orders = [[number + 2 for number in order] for order in plain_orders([PLAIN] * 3, 1, [("coin", 2, 0)])]
        self.assertEqual(cabinet.order(1), orders[0])
        self.assertEqual(cabinet.many(1), len(orders))

    def test_told_lists_are_new(self):
        cabinet = small_cabinet()
        before = seen(cabinet)
        kept = [cabinet.order(2), cabinet.paper(1)]
        for told in (cabinet.numbers(), cabinet.coins(), cabinet.facts(), cabinet.order(2), cabinet.paper(1)):
            self.assertIs(type(told), list)
            told[0] = 77
            told.append(5)
        self.assertEqual(seen(cabinet), before)
        self.assertEqual([cabinet.order(2), cabinet.paper(1)], kept)
        told = cabinet.one_die("upper", 3, 4)
        told.clear()
        self.assertEqual([coin[2] for coin in cabinet.coins()], [3, 3, 3, 5])
        for fact in cabinet.facts():
            self.assertIs(type(fact), tuple)
        self.assertIs(type(cabinet.untell(2)), tuple)

    def test_asking_changes_nothing(self):
        cabinet = small_cabinet()
        before = seen(cabinet)
        self.assert_answers(cabinet)
        self.assertEqual(seen(cabinet), before)
        self.assertEqual((cabinet.put(PLAIN), cabinet.tell(1, 2)), (6, 4))

    def test_nine_quickly(self):
        cabinet = cabinet_of(*[PLAIN] * 9)
        begun = time.process_time()
        for one, other in itertools.permutations(range(1, 10), 2):
            self.assertEqual(cabinet.told(1, one, other), "either")
        self.assertEqual((cabinet.many(9), cabinet.fewest(), cabinet.paper(1)), (362880, 1, None))
        self.assertLess(time.process_time() - begun, 20)

    def test_names(self):
        cabinet = Cabinet()
        cabinet.put(coin=PLAIN)
        cabinet.put(coin=(2, (), 1, (), 0))
        cabinet.put(coin=PLAIN)
        self.assertEqual(cabinet.right(number=1, coin=PLAIN), PLAIN)
        self.assertEqual(cabinet.coin(number=1), PLAIN)
        self.assertEqual(cabinet.tell(one=1, other=2), 1)
        self.assertEqual(cabinet.told(anvils=1, one=1, other=2), "first")
        self.assertEqual(cabinet.order(anvils=1), [1, 3, 2])
        self.assertEqual(cabinet.many(anvils=1), 2)
        self.assertIsNone(cabinet.paper(anvils=1))
        self.assertEqual(cabinet.untell(number=1), (1, 2))
        self.assertEqual(cabinet.two_dies(side="lower", die=1, numbers=[3]), 3)
        self.assertEqual(cabinet.one_die(side="lower", die=1, other=3), [3])
        self.assertEqual(cabinet.out(number=1), PLAIN)


class TwinTest(CabinetCase):
    def test_stands_alike(self):
        for cabinet in (Cabinet(), small_cabinet(), cabinet_of(*[PLAIN] * 9)):
            twin = cabinet.twin()
            self.assertIs(type(twin), Cabinet)
            self.assertEqual(seen(twin), seen(cabinet))
            self.assert_answers(twin)

    def test_numbers_go_on_as_in_the_other(self):
        cabinet = small_cabinet()
        cabinet.out(5)
        cabinet.untell(2)
        twin = cabinet.twin()
        self.assertEqual((twin.put(PLAIN), twin.tell(1, 2)), (6, 4))
        self.assertEqual((cabinet.put(PLAIN), cabinet.tell(1, 2)), (6, 4))

    def test_goes_its_own_way(self):
        for deed in (
            lambda cabinet: cabinet.put(PLAIN), lambda cabinet: cabinet.right(1, PLAIN), lambda cabinet: cabinet.out(4),
            lambda cabinet: cabinet.tell(1, 2), lambda cabinet: cabinet.untell(3),
            lambda cabinet: cabinet.one_die("lower", 1, 2), lambda cabinet: cabinet.two_dies("lower", 1, [1]),
        ):
            cabinet = small_cabinet()
            before = seen(cabinet)
            twin = cabinet.twin()
            deed(twin)
            after = seen(twin)
            self.assertNotEqual(after, before)
            self.assertEqual(seen(cabinet), before)
            other = cabinet.twin()
            deed(cabinet)
            self.assertEqual(seen(cabinet), after)
            self.assertEqual(seen(twin), after)
            self.assertEqual(seen(other), before)


class PlainCabinet:
    """A cabinet word by word, for deeds that are not refused."""

    def __init__(self):
        self.coins, self.facts, self.given, self.told = {}, {}, 0, 0

    def put(self, coin):
        self.given += 1
        self.coins[self.given] = list(coin)

    def right(self, number, coin):
        self.coins[number] = list(coin)

    def out(self, number):
        del self.coins[number]
        for fact, pair in list(self.facts.items()):
            if number in pair:
                del self.facts[fact]

    def tell(self, one, other):
        self.told += 1
        self.facts[self.told] = (one, other)

    def untell(self, number):
        del self.facts[number]

    def one_die(self, side, die, other):
        for coin in self.coins.values():
            if coin[FIELDS[side]] == other:
                coin[FIELDS[side]] = die

    def two_dies(self, side, die, numbers):
        used = {coin[FIELDS[side]] for coin in self.coins.values()}
        for number in numbers:
            self.coins[number][FIELDS[side]] = min(set(range(1, 100)) - used)

    def seen(self):
        return [
            list(self.coins), [tuple(coin) for coin in self.coins.values()],
            [(number, *pair) for number, pair in self.facts.items()],
        ]


def some_coin(chance):
    marks = ((), (0,), (0, 1))
    return (chance.randint(1, 4), chance.choice(marks), chance.randint(1, 4), chance.choice(marks), chance.randint(0, 2))


def some_cabinet_deed(chance, given):
    def number():
        return chance.randint(max(1, given - 9), given + 1)

    side = chance.choice(("lower", "upper"))
    return chance.choice((
        ("put", some_coin(chance)), ("put", some_coin(chance)), ("right", number(), some_coin(chance)), ("out", number()),
        ("tell", number(), number()), ("tell", number(), number()), ("untell", chance.randint(1, 20)),
        ("one_die", side, chance.randint(1, 5), chance.randint(1, 5)),
        ("two_dies", side, chance.randint(1, 5), [number() for turn in range(chance.randint(0, 3))]),
    ))


class ManyDeedsTest(CabinetCase):
    def test_against_the_document_word_by_word(self):
        done = {}
        for seed in range(60):
            chance = random.Random(seed)
            cabinet, plain = Cabinet(), PlainCabinet()
            for turn in range(200):
                word, *things = some_cabinet_deed(chance, plain.given)
                try:
                    getattr(cabinet, word)(*things)
                except MintError:
                    pass
                else:
                    done[word] = done.get(word, 0) + 1
                    getattr(plain, word)(*things)
                self.assertEqual(seen(cabinet), plain.seen(), (seed, word, things))
            if seed % 15 == 0:
                self.assert_answers(cabinet)
        self.assertEqual(len(done), 7)
        self.assertGreater(min(done.values()), 20)


if __name__ == "__main__":
    unittest.main()

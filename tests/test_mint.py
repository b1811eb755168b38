"""A mint: trussel.mint, promises [1], [15] and [16]."""

import random
import unittest

from plain import NO_ANVILS, VERY_GREAT, do_at, mint_seen, some_deed
from trussel.coins import good_coin
from trussel.errors import (
    BadAnvils, BadSide, BadSpot, BadYear, Fixed, Full, Gone, Marked, MintError, NoAnvil, NoCoin, NoDie, NotFixed,
)
from trussel.faults import order_fault
from trussel.mint import Mint
from trussel.orders import least_order

NO_SIDES = ("", "Lower", "lower ", "UPPER", "coin", "both", "lowerupper")
NEVER_DIES = (0, -1, -2, 100, VERY_GREAT, -VERY_GREAT, True, False)


def small_mint():
    """Two anvils; lower dies 1 to 4: gone, fixed, fixed, new; upper dies 1 and 2; a coin of 1 and 1."""
    mint = Mint(2)
    for side in ("lower", "lower", "upper", "lower", "lower", "upper"):
        mint.cut(side)
    mint.fix(1)
    mint.fix(2)
    mint.strike(1, 1)
    mint.lay_off(1)
    mint.fix(3)
    mint.mark("lower", 2, 5)
    mint.mark("upper", 1, 0)
    return mint


def full_mint():
    """Ninety-nine dies of either side, one of them fixed, and two hundred coins."""
    mint = Mint(1)
    for side in ("lower", "upper"):
        for die in range(99):
            mint.cut(side)
    mint.fix(50)
    for number in range(200):
        mint.strike(50, 1 + number % 99)
    return mint


class MintCase(unittest.TestCase):
    def assert_refused(self, mint, refusal, deed, *things):
        before = mint_seen(mint)
        with self.assertRaises(refusal, msg=things) as caught:
            deed(*things)
        self.assertIs(type(caught.exception), refusal)
        self.assertEqual(mint_seen(mint), before)


class NewTest(MintCase):
    def test_bad_anvils(self):
        for anvils in NO_ANVILS + (True, False):
            with self.assertRaises(BadAnvils):
                Mint(anvils)

    def test_a_new_mint(self):
        for anvils in range(1, 10):
            mint = Mint(anvils)
            self.assertEqual(mint.anvils(), [None] * anvils)
            self.assertEqual((mint.dies("lower"), mint.dies("upper")), (0, 0))
            self.assertEqual((mint.year(), mint.struck()), (0, 0))
            self.assertEqual(mint.hoard([]), [])

    def test_names(self):
        mint = Mint(anvils=2)
        self.assertEqual(mint.cut(side="lower"), 1)
        self.assertEqual(mint.cut(side="upper"), 1)
        self.assertEqual(mint.fix(die=1), 0)
        self.assertIsNone(mint.mark(side="lower", die=1, spot=3))
        self.assertIsNone(mint.begin_year(number=7))
        self.assertEqual(mint.strike(lower=1, upper=1), 0)
        self.assertEqual(mint.lay_off(die=1), 0)
        self.assertEqual(mint.dies(side="lower"), 1)
        self.assertEqual(mint.marks(side="lower", die=1), (3,))
        self.assertEqual(mint.state(die=1), "gone")
        self.assertEqual(mint.coin(number=0), (1, (3,), 1, (), 7))
        self.assertEqual(mint.hoard(numbers=[0]), [(1, (3,), 1, (), 7)])


class CutTest(MintCase):
    def test_next_number_of_that_side(self):
        mint = Mint(1)
        self.assertEqual([mint.cut("lower"), mint.cut("lower"), mint.cut("upper"), mint.cut("lower")], [1, 2, 1, 3])
        self.assertEqual((mint.dies("lower"), mint.dies("upper")), (3, 1))
        self.assertEqual([mint.marks("lower", die) for die in (1, 2, 3)], [(), (), ()])
        self.assertEqual(mint.state(3), "new")

    def test_bad_side(self):
        mint = small_mint()
        for side in NO_SIDES:
            self.assert_refused(mint, BadSide, mint.cut, side)
        full = full_mint()
        self.assert_refused(full, BadSide, full.cut, "")

    def test_ninety_nine(self):
        for side, other in (("lower", "upper"), ("upper", "lower")):
            mint = Mint(1)
            self.assertEqual([mint.cut(side) for die in range(99)], list(range(1, 100)))
            self.assert_refused(mint, Full, mint.cut, side)
            self.assertEqual(mint.dies(side), 99)
            self.assertEqual(mint.cut(other), 1)

    def test_gone_dies_count(self):
        mint = Mint(1)
        for die in range(1, 100):
            mint.cut("lower")
            mint.fix(die)
            mint.lay_off(die)
        self.assert_refused(mint, Full, mint.cut, "lower")


class FixTest(MintCase):
    def test_the_free_anvil_of_the_least_number(self):
        mint = Mint(3)
        for die in range(6):
            mint.cut("lower")
        self.assertEqual([mint.fix(4), mint.fix(1), mint.fix(2)], [0, 1, 2])
        self.assertEqual(mint.anvils(), [4, 1, 2])
        self.assertEqual(mint.lay_off(2), 2)
        self.assertEqual(mint.lay_off(4), 0)
        self.assertEqual(mint.anvils(), [None, 1, None])
        self.assertEqual(mint.fix(6), 0)
        self.assertEqual(mint.anvils(), [6, 1, None])
        self.assertEqual(mint.fix(3), 2)
        self.assertEqual(mint.anvils(), [6, 1, 3])
        self.assertEqual(mint.lay_off(1), 1)
        self.assertEqual(mint.fix(5), 1)
        self.assertEqual([mint.state(die) for die in range(1, 7)], ["gone", "gone", "fixed", "gone", "fixed", "fixed"])

    def test_no_die(self):
        mint = small_mint()
        for die in NEVER_DIES + (5, 6, 99):
            self.assert_refused(mint, NoDie, mint.fix, die)
        bare = Mint(1)
        bare.cut("upper")
        self.assert_refused(bare, NoDie, bare.fix, 1)

    def test_fixed_and_gone_ahead_of_no_anvil(self):
        mint = small_mint()
        self.assert_refused(mint, Fixed, mint.fix, 2)
        self.assert_refused(mint, Fixed, mint.fix, 3)
        self.assert_refused(mint, Gone, mint.fix, 1)
        self.assert_refused(mint, NoAnvil, mint.fix, 4)
        self.assert_refused(mint, NoDie, mint.fix, 5)

    def test_with_a_free_anvil(self):
        mint = small_mint()
        mint.lay_off(3)
        self.assert_refused(mint, Fixed, mint.fix, 2)
        self.assert_refused(mint, Gone, mint.fix, 1)
        self.assert_refused(mint, Gone, mint.fix, 3)
        self.assertEqual(mint.fix(4), 0)

    def test_a_die_laid_off_is_never_fixed_again(self):
        mint = Mint(9)
        mint.cut("lower")
        mint.fix(1)
        mint.lay_off(1)
        for turn in range(20):
            self.assert_refused(mint, Gone, mint.fix, 1)
            self.assert_refused(mint, NotFixed, mint.lay_off, 1)
            mint.cut("lower")
            mint.fix(turn + 2)
            mint.lay_off(turn + 2)
            self.assertEqual(mint.state(1), "gone")


class LayOffTest(MintCase):
    def test_no_die_ahead_of_not_fixed(self):
        mint = small_mint()
        for die in NEVER_DIES + (5, 99):
            self.assert_refused(mint, NoDie, mint.lay_off, die)
        for die in (1, 4):
            self.assert_refused(mint, NotFixed, mint.lay_off, die)

    def test_the_anvil_is_free_then(self):
        mint = small_mint()
        self.assertEqual(mint.anvils(), [3, 2])
        self.assertEqual(mint.lay_off(2), 1)
        self.assertEqual(mint.anvils(), [3, None])
        self.assertEqual(mint.state(2), "gone")
        self.assertEqual(mint.marks("lower", 2), (5,))


class MarkTest(MintCase):
    def test_marks_rise(self):
        mint = small_mint()
        for spot in (7, 0, 3):
            self.assertIsNone(mint.mark("upper", 2, spot))
        self.assertEqual(mint.marks("upper", 2), (0, 3, 7))
        for spot in (6, 1, 5, 2, 4):
            mint.mark("upper", 2, spot)
        self.assertEqual(mint.marks("upper", 2), tuple(range(8)))
        self.assertEqual(mint.marks("upper", 1), (0,))
        self.assertEqual([mint.marks("lower", die) for die in range(1, 5)], [(), (5,), (), ()])

    def test_a_new_die_may_be_marked(self):
        mint = small_mint()
        mint.mark("lower", 4, 1)
        self.assertEqual(mint.marks("lower", 4), (1,))

    def test_bad_side_ahead_of_all(self):
        mint = small_mint()
        for side in NO_SIDES:
            self.assert_refused(mint, BadSide, mint.mark, side, 2, 1)
            self.assert_refused(mint, BadSide, mint.mark, side, 99, 9)

    def test_no_die(self):
        mint = small_mint()
        for spot in (1, 8, -1):
            for die in NEVER_DIES + (5,):
                self.assert_refused(mint, NoDie, mint.mark, "lower", die, spot)
            for die in NEVER_DIES + (3,):
                self.assert_refused(mint, NoDie, mint.mark, "upper", die, spot)

    def test_gone_ahead_of_bad_spot_and_marked(self):
        mint = small_mint()
        mint.lay_off(2)
        for spot in (1, 5, 8, -1, VERY_GREAT):
            self.assert_refused(mint, Gone, mint.mark, "lower", 2, spot)
        # The upper die of that number was not laid off.
        mint.mark("upper", 2, 5)
        self.assertEqual(mint.marks("upper", 2), (5,))

    def test_bad_spot(self):
        mint = small_mint()
        for spot in (-1, 8, 9, VERY_GREAT, -VERY_GREAT, True, False):
            self.assert_refused(mint, BadSpot, mint.mark, "lower", 2, spot)
            self.assert_refused(mint, BadSpot, mint.mark, "upper", 1, spot)

    def test_marked(self):
        mint = small_mint()
        self.assert_refused(mint, Marked, mint.mark, "lower", 2, 5)
        self.assert_refused(mint, Marked, mint.mark, "upper", 1, 0)
        mint.mark("lower", 2, 0)
        self.assert_refused(mint, Marked, mint.mark, "lower", 2, 0)


class StrikeTest(MintCase):
    def test_coins_are_numbered_from_nought(self):
        mint = small_mint()
        self.assertEqual(mint.struck(), 1)
        self.assertEqual([mint.strike(2, 1), mint.strike(3, 2), mint.strike(2, 1)], [1, 2, 3])
        self.assertEqual(mint.struck(), 4)
        self.assertEqual(mint.coin(1), (2, (5,), 1, (0,), 0))
        self.assertEqual(mint.coin(2), (3, (), 2, (), 0))
        self.assertEqual(mint.coin(3), mint.coin(1))

    def test_marks_of_a_struck_coin_stay(self):
        mint = small_mint()
        mint.begin_year(1400)
        mint.strike(2, 1)
        mint.mark("lower", 2, 1)
        mint.mark("upper", 1, 7)
        mint.begin_year(1401)
        mint.strike(2, 1)
        mint.lay_off(2)
        self.assertEqual(mint.coin(0), (1, (), 1, (), 0))
        self.assertEqual(mint.coin(1), (2, (5,), 1, (0,), 1400))
        self.assertEqual(mint.coin(2), (2, (1, 5), 1, (0, 7), 1401))

    def test_no_die_ahead_of_not_fixed(self):
        mint = small_mint()
        for die in NEVER_DIES + (5,):
            self.assert_refused(mint, NoDie, mint.strike, die, 1)
            self.assert_refused(mint, NoDie, mint.strike, die, 99)
        for die in NEVER_DIES + (3,):
            for lower in (1, 2, 4):
                self.assert_refused(mint, NoDie, mint.strike, lower, die)

    def test_not_fixed(self):
        mint = small_mint()
        for lower in (1, 4):
            self.assert_refused(mint, NotFixed, mint.strike, lower, 1)

    def test_two_hundred(self):
        mint = full_mint()
        self.assertEqual(mint.struck(), 200)
        self.assertEqual(mint.coin(199), (50, (), 2, (), 0))
        self.assert_refused(mint, Full, mint.strike, 50, 1)
        self.assert_refused(mint, NotFixed, mint.strike, 49, 1)
        self.assert_refused(mint, NoDie, mint.strike, 50, 100)
        self.assert_refused(mint, NoDie, mint.strike, 100, 1)
        # All else goes on.
        mint.mark("lower", 50, 0)
        mint.begin_year(1)
        self.assertEqual(mint.lay_off(50), 0)
        self.assertEqual(mint.coin(0), (50, (), 1, (), 0))

    def test_the_two_hundredth_is_struck(self):
        mint = Mint(1)
        mint.cut("lower")
        mint.cut("upper")
        mint.fix(1)
        self.assertEqual([mint.strike(1, 1) for number in range(200)], list(range(200)))
        self.assert_refused(mint, Full, mint.strike, 1, 1)


class YearTest(MintCase):
    def test_years(self):
        mint = small_mint()
        self.assertEqual(mint.year(), 0)
        for year in (1, 2, 1412, 9998, 9999):
            self.assertIsNone(mint.begin_year(year))
            self.assertEqual(mint.year(), year)
            for bad in (year, year - 1, 0, -1, 10000, VERY_GREAT, -VERY_GREAT, True, False):
                self.assert_refused(mint, BadYear, mint.begin_year, bad)

    def test_the_first_year(self):
        for bad in (0, -1, 10000, 10001, VERY_GREAT, True):
            mint = Mint(1)
            self.assert_refused(mint, BadYear, mint.begin_year, bad)
        mint.begin_year(9999)
        self.assertEqual(mint.year(), 9999)


class QuestionsTest(MintCase):
    def test_sides(self):
        mint = small_mint()
        for side in NO_SIDES:
            self.assert_refused(mint, BadSide, mint.dies, side)
            self.assert_refused(mint, BadSide, mint.marks, side, 1)
            self.assert_refused(mint, BadSide, mint.marks, side, 99)

    def test_no_die(self):
        mint = small_mint()
        for die in NEVER_DIES + (5, 99):
            self.assert_refused(mint, NoDie, mint.marks, "lower", die)
            self.assert_refused(mint, NoDie, mint.state, die)
        for die in NEVER_DIES + (3, 4):
            self.assert_refused(mint, NoDie, mint.marks, "upper", die)

    def test_states(self):
        self.assertEqual([small_mint().state(die) for die in range(1, 5)], ["gone", "fixed", "fixed", "new"])

    def test_no_coin(self):
        mint = small_mint()
        for number in (-1, 1, 2, 200, VERY_GREAT, -VERY_GREAT, True, False):
            self.assert_refused(mint, NoCoin, mint.coin, number)
            self.assert_refused(mint, NoCoin, mint.hoard, [number])
            self.assert_refused(mint, NoCoin, mint.hoard, [0, 0, number, 0])
        self.assert_refused(Mint(1), NoCoin, Mint(1).coin, 0)
        self.assert_refused(Mint(1), NoCoin, Mint(1).hoard, [0])

    def test_hoard(self):
        mint = small_mint()
        mint.strike(2, 1)
        mint.strike(3, 2)
        numbers = [2, 0, 2, 1, 1]
        self.assertEqual(mint.hoard(numbers), [mint.coin(2), mint.coin(0), mint.coin(2), mint.coin(1), mint.coin(1)])
        self.assertEqual(numbers, [2, 0, 2, 1, 1])
        self.assertEqual(full_mint().hoard([199] * 300), [(50, (), 2, (), 0)] * 300)

    def test_told_lists_are_new(self):
        mint = small_mint()
        before = mint_seen(mint)
        told = mint.anvils()
        told[0] = 77
        told.append(5)
        hoard = mint.hoard([0])
        hoard.clear()
        self.assertEqual(mint_seen(mint), before)
        self.assertEqual(mint.anvils(), [3, 2])
        self.assertEqual(mint.hoard([0]), [(1, (), 1, (), 0)])

    def test_kinds(self):
        mint = small_mint()
        self.assertIs(type(mint.anvils()), list)
        self.assertIs(type(mint.hoard([0])), list)
        self.assertIs(type(mint.coin(0)), tuple)
        self.assertIs(type(mint.marks("lower", 2)), tuple)


class TwinTest(MintCase):
    def test_stands_alike(self):
        dated = small_mint()
        dated.begin_year(1412)
        for mint in (Mint(1), Mint(9), small_mint(), dated, full_mint()):
            twin = mint.twin()
            self.assertIs(type(twin), Mint)
            self.assertIsNot(twin, mint)
            self.assertEqual(mint_seen(twin), mint_seen(mint))

    def test_goes_its_own_way(self):
        for deeds in (
            [("cut", "lower")], [("cut", "upper")], [("off", 2)], [("off", 3), ("fix", 4)], [("mark", "lower", 2, 7)],
            [("mark", "upper", 2, 7)], [("strike", 2, 2)], [("year", 5)],
        ):
            mint = small_mint()
            before = mint_seen(mint)
            twin = mint.twin()
            for deed in deeds:
                do_at(twin, deed)
            self.assertEqual(mint_seen(mint), before)
            self.assertNotEqual(mint_seen(twin), before)
            after = mint_seen(twin)
            other = mint.twin()
            for deed in deeds:
                do_at(mint, deed)
            self.assertEqual(mint_seen(mint), after)
            self.assertEqual(mint_seen(twin), after)
            self.assertEqual(mint_seen(other), before)

    def test_a_die_gone_is_gone_for_the_twin(self):
        twin = small_mint().twin()
        self.assert_refused(twin, Gone, twin.fix, 1)
        self.assert_refused(twin, Gone, twin.mark, "lower", 1, 0)


class HoardOrderTest(unittest.TestCase):
    """Promise [16]: coins of a mint have the order in which it struck them."""

    def test_coins_of_a_mint_have_an_order(self):
        coins_seen = 0
        for seed in range(40):
            chance = random.Random(seed)
            anvils = chance.randint(1, 4)
            mint = Mint(anvils)
            for turn in range(400):
                try:
                    do_at(mint, some_deed(chance, mint.year()))
                except MintError:
                    continue
            coins_seen += mint.struck()
            for turn in range(5):
                numbers = chance.sample(range(mint.struck()), min(mint.struck(), chance.randint(0, 9)))
                coins = mint.hoard(numbers)
                self.assertTrue(all(good_coin(coin) for coin in coins))
                order = sorted(range(len(numbers)), key=lambda place: numbers[place])
                self.assertIsNone(order_fault(coins, anvils, [], order), (seed, coins))
                self.assertIsNotNone(least_order(coins, anvils, []))
        self.assertGreater(coins_seen, 1000)


if __name__ == "__main__":
    unittest.main()

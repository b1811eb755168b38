"""Coins as texts: trussel.words, promises [1] and [14]."""

import itertools
import unittest

from plain import BAD_COIN, VERY_GREAT
from trussel.coins import good_coin
from trussel.errors import BadCoin, BadText
from trussel.words import coin_text, read_coin

WRITTEN = {
    "3/027 11/- 1412": (3, (0, 2, 7), 11, (), 1412),
    "1/- 1/- -": (1, (), 1, (), 0),
    "99/- 99/- 9999": (99, (), 99, (), 9999),
    "9/01234567 10/01234567 1": (9, tuple(range(8)), 10, tuple(range(8)), 1),
    "10/0 90/7 10": (10, (0,), 90, (7,), 10),
    "20/35 7/1 100": (20, (3, 5), 7, (1,), 100),
    "1/- 2/0 1000": (1, (), 2, (0,), 1000),
    "5/46 6/- -": (5, (4, 6), 6, (), 0),
}

UNREAD = (
    # nothing, or not three words
    "", " ", "  ", "-", "/", "//", "- - -", "1/-", "1/- 1/-", "1/- 1/- ", " 1/- 1/-", "1/- 1/- - -", "/ / -",
    # a blank, a sign or a line feed too many
    " 1/- 1/- -", "1/- 1/- - ", "1/-  1/- -", "1/- 1/-  -", "1 /- 1/- -", "1/ - 1/- -", "1/- 1/- 14 12",
    "1/- 1/- -\n", "\n1/- 1/- -", "1/- 1/-\n-", "1/-\n1/- -", "1/- 1/- 1412\n", "1/-\n 1/- -", "1/\n 1/- -",
    "1/-\t1/- -", "1//- 1/- -", "1/-/ 1/- -", "1/-- 1/- -", "1/- 1/- --", "1/- 1/- -1412", "1/- 1/- 1412-",
    "1/-0 1/- -", "1/0- 1/- -", "1/- 1/-7 -", "1/0,1 1/- -", "1/0 1 1/- -", "1/- 1/- 1412.", "1/- 1/- +1412",
    "+1/- 1/- -", "1/- +1/- -", "1/+0 1/- -", "1/- 1/- 1_412", "1_0/- 1/- -", "x1/- 1/- -", "1/- 1/- -x",
    # a sign too few
    "1 1/- -", "1/- 1 -", "1- 1/- -", "1/- 1- -", "/- 1/- -", "1/- /- -", "1/ 1/- -", "1/- 1/ -", "1/-1/- -",
    "1/- 1/--", "1/- 1/-1412",
    # needless noughts
    "01/- 1/- -", "1/- 01/- -", "1/- 1/- 01", "1/- 1/- 0001", "1/- 1/- 01412", "001/- 1/- -", "1/- 010/- -",
    # marks that do not rise, twice, no spots
    "1/10 1/- -", "1/- 1/720 -", "1/00 1/- -", "1/- 1/77 -", "1/0122 1/- -", "1/8 1/- -", "1/- 1/8 -", "1/9 1/- -",
    "1/018 1/- -", "1/- 1/79 -", "1/a 1/- -", "1/012345678 1/- -", "1/~ 1/- -", "1/- 1/* -",
    # dies and years that are none
    "0/- 1/- -", "1/- 0/- -", "100/- 1/- -", "1/- 100/- -", "-1/- 1/- -", "1/- -1/- -", "1/- 1/- 0", "1/- 1/- 10000",
    "1/- 1/- -1", "1/- 1/- 99999", "00/- 1/- -", "1/- 1/- 00", "-/- 1/- -", "1/- -/- -", "a/- 1/- -", "1/- 1/- x",
    "1/- 1/- none", "1/- 1/- None", "None/- 1/- -", "True/- 1/- -", "0x1/- 1/- -", "1e1/- 1/- -", "1.0/- 1/- -",
    # very long
    "9" * 5000 + "/- 1/- -", "1/- " + "9" * 5000 + "/- -", "1/- 1/- " + "9" * 5000, "1/- 1/- " + "0" * 5000,
    "1/" + "7" * 5000 + " 1/- -", "1/- 1/- -" * 1000, " " * 5000,
)


class TextTest(unittest.TestCase):
    def test_there_and_back(self):
        for text, coin in WRITTEN.items():
            self.assertEqual(coin_text(coin), text)
            self.assertEqual(read_coin(text), coin)

    def test_read_is_a_tuple_of_tuples_and_numbers(self):
        for text in WRITTEN:
            coin = read_coin(text)
            self.assertIs(type(coin), tuple)
            self.assertEqual([type(thing) for thing in coin], [int, tuple, int, tuple, int])
            self.assertTrue(all(type(spot) is int for spot in coin[1] + coin[3]))

    def test_all_dies(self):
        for die in range(1, 100):
            self.assertEqual(coin_text((die, (), 100 - die, (), 0)), f"{die}/- {100 - die}/- -")
            self.assertEqual(read_coin(f"{die}/- {100 - die}/- -"), (die, (), 100 - die, (), 0))

    def test_all_marks(self):
        for many in range(1, 9):
            for marks in itertools.combinations(range(8), many):
                figures = "".join(map(str, marks))
                self.assertEqual(coin_text((1, marks, 2, (), 0)), f"1/{figures} 2/- -")
                self.assertEqual(read_coin(f"1/- 2/{figures} -"), (1, (), 2, marks, 0))

    def test_all_years(self):
        for year in range(1, 10000):
            self.assertEqual(coin_text((1, (), 1, (), year)), f"1/- 1/- {year}")
            self.assertEqual(read_coin(f"1/- 1/- {year}"), (1, (), 1, (), year))

    def test_bad_coin(self):
        for coin in (
            BAD_COIN, (0, (), 1, (), 0), (1, (), 0, (), 0), (1, (), 100, (), 0), (-1, (), 1, (), 0),
            (1, (8,), 1, (), 0), (1, (), 1, (-1,), 0), (1, (1, 0), 1, (), 0), (1, (), 1, (3, 3), 0),
            (1, (), 1, (), -1), (1, (), 1, (), 10000), (VERY_GREAT, (), 1, (), 0), (1, (), 1, (), VERY_GREAT),
            (1, (VERY_GREAT,), 1, (), 0), (True, (), 1, (), 0), (1, (False,), 1, (), 0), (1, (), 1, (), False),
        ):
            with self.assertRaises(BadCoin):
                coin_text(coin)

    def test_just_such_texts_are_read(self):
        for text in UNREAD:
            with self.assertRaises(BadText, msg=text[:40]) as caught:
                read_coin(text)
            self.assertEqual(caught.exception.row, 0)

    def test_each_small_change_of_a_text(self):
        read = 0
        for text in ("3/027 11/- 1412", "1/- 2/0 -"):
            changed = set()
            for at in range(len(text) + 1):
                for sign in [""] + list("0123456789-/ \n+_.,ax~"):
                    changed.add(text[:at] + sign + text[at:])
                    changed.add(text[:at] + sign + text[at + 1:])
            for spoilt in changed:
                try:
                    coin = read_coin(spoilt)
                except BadText as refusal:
                    self.assertEqual(refusal.row, 0)
                else:
                    read += 1
                    self.assertTrue(good_coin(coin))
                    self.assertEqual(coin_text(coin), spoilt)
        self.assertGreater(read, 50)

    def test_names(self):
        self.assertEqual(coin_text(coin=(1, (), 1, (), 0)), "1/- 1/- -")
        self.assertEqual(read_coin(text="1/- 1/- -"), (1, (), 1, (), 0))


if __name__ == "__main__":
    unittest.main()

"""Marks: trussel.wear, promises [1] and [2]."""

import itertools
import unittest

from trussel.wear import both, good_marks, within

VERY_GREAT = 10 ** 5000
ALL_SPOTS = (0, 1, 2, 3, 4, 5, 6, 7)
ALL_MARKS = tuple(
    marks for many in range(9) for marks in itertools.combinations(ALL_SPOTS, many)
)


class GoodMarksTest(unittest.TestCase):
    def test_marks(self):
        for marks in ((), ALL_SPOTS, (0,), (7,), (3,), (0, 7), (0, 2, 7), (1, 2, 3)):
            with self.subTest(marks):
                self.assertIs(good_marks(marks), True)

    def test_two_exchanged(self):
        for marks in ((1, 0), (7, 0), (0, 2, 1), (1, 0, 2), (0, 1, 2, 3, 4, 5, 7, 6)):
            with self.subTest(marks):
                self.assertIs(good_marks(marks), False)

    def test_a_spot_twice(self):
        for marks in ((0, 0), (7, 7), (3, 3), (1, 2, 2), (1, 1, 2), (1, 2, 1), ALL_SPOTS + (7,)):
            with self.subTest(marks):
                self.assertIs(good_marks(marks), False)

    def test_no_spots(self):
        for spot in (8, 9, -1, -8, VERY_GREAT, -VERY_GREAT):
            for marks in ((spot,), (spot, 3), (3, spot), ALL_SPOTS + (spot,), (spot,) + ALL_SPOTS):
                with self.subTest(len(marks)):
                    self.assertIs(good_marks(marks), False)

    def test_true_and_false_are_no_numbers(self):
        for marks in ((False,), (True,), (0, True), (False, 1), (True, 2)):
            with self.subTest(marks):
                self.assertIs(good_marks(marks), False)

    def test_numbers_are_whole_numbers(self):
        for marks in ((1.0,), (0, 1.5), (2.0, 3)):
            with self.subTest(marks):
                self.assertIs(good_marks(marks), False)

    def test_all_short_tuples(self):
        for many in range(5):
            for marks in itertools.product(range(-1, 9), repeat=many):
                good = list(marks) == sorted(set(marks) & set(ALL_SPOTS))
                self.assertIs(good_marks(marks), good, marks)


class WithinTest(unittest.TestCase):
    def test_within(self):
        for one, other in (
            ((), ()), ((), (3,)), ((), ALL_SPOTS), ((2,), (2,)), ((0, 5), (0, 5)),
            ((2,), (1, 2)), ((0, 7), (0, 3, 7)), (ALL_SPOTS, ALL_SPOTS),
        ):
            with self.subTest((one, other)):
                self.assertIs(within(one, other), True)

    def test_not_within(self):
        for one, other in (
            ((3,), ()), (ALL_SPOTS, ()), ((1, 2), (2,)), ((0, 3, 7), (0, 7)),
            ((0,), (1,)), ((1,), (0,)), ((0, 1), (1, 2)), ((1, 2), (0, 1)),
        ):
            with self.subTest((one, other)):
                self.assertIs(within(one, other), False)

    def test_all_pairs(self):
        for one in ALL_MARKS:
            for other in ALL_MARKS:
                self.assertIs(within(one, other), set(one) <= set(other), (one, other))


class BothTest(unittest.TestCase):
    def test_both(self):
        for one, other, told in (
            ((), (), ()),
            ((), (4,), (4,)),
            ((2, 5), (2, 5), (2, 5)),
            ((2,), (1, 2), (1, 2)),
            ((7,), (0,), (0, 7)),
            ((0, 6), (3, 6, 7), (0, 3, 6, 7)),
        ):
            with self.subTest((one, other)):
                self.assertEqual(both(one, other), told)
                self.assertEqual(both(other, one), told)

    def test_all_pairs(self):
        for one in ALL_MARKS:
            for other in ALL_MARKS:
                told = both(one, other)
                self.assertIs(type(told), tuple)
                self.assertEqual(told, tuple(k for k in ALL_SPOTS if k in one + other))


class ArgumentsTest(unittest.TestCase):
    def test_names(self):
        self.assertIs(good_marks(marks=(0,)), True)
        self.assertIs(within(other=(0, 1), one=(0,)), True)
        self.assertEqual(both(one=(0,), other=(1,)), (0, 1))


if __name__ == "__main__":
    unittest.main()

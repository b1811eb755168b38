"""The refusals of trussel.errors."""

import unittest

from trussel import errors

REFUSALS = (
    "TooMany", "BadCoin", "BadAnvils", "BadRule", "BadSide", "NoPlace", "NoDie", "SameOne",
    "BadStand", "BadNumber", "NoOrder", "Full", "Fixed", "Gone", "NoAnvil", "NotFixed",
    "BadSpot", "Marked", "BadYear", "NoCoin", "NoFact", "BadList", "BadDeed", "Nothing",
    "BadText",
)


class ErrorsTest(unittest.TestCase):
    def test_mint_error_is_a_value_error(self):
        self.assertEqual(errors.MintError.__bases__, (ValueError,))

    def test_each_refusal_is_straight_under_mint_error(self):
        for name in REFUSALS:
            with self.subTest(name):
                self.assertEqual(getattr(errors, name).__bases__, (errors.MintError,))
                self.assertEqual(getattr(errors, name).__name__, name)

    def test_no_refusal_is_under_another(self):
        for name in REFUSALS:
            for other in REFUSALS:
                if name != other:
                    with self.subTest((name, other)):
                        self.assertFalse(issubclass(getattr(errors, name), getattr(errors, other)))

    def test_each_refusal_is_taken_as_any_refusal(self):
        for name in REFUSALS:
            with self.subTest(name), self.assertRaises(errors.MintError):
                refusal = getattr(errors, name)
                raise refusal(0) if name == "BadText" else refusal("words")

    def test_bad_text_bears_its_row(self):
        for row in (0, 1, 200):
            with self.subTest(row):
                with self.assertRaises(errors.BadText) as caught:
                    raise errors.BadText(row)
                self.assertEqual(caught.exception.row, row)


if __name__ == "__main__":
    unittest.main()

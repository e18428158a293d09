"""The refusals' classes (points 16 and 17, and the interface)."""

import unittest

from costorder import errors

NAMES = ("Full", "NoClaim", "RoundOver", "TooLate", "Twice", "TooMuch", "NoRow", "Needed")


class ErrorClasses(unittest.TestCase):
    def test_cost_error_stands_straight_under_value_error(self):
        self.assertEqual(errors.CostError.__bases__, (ValueError,))

    def test_each_refusal_stands_straight_under_cost_error(self):
        for name in NAMES:
            with self.subTest(name):
                self.assertEqual(getattr(errors, name).__bases__, (errors.CostError,))

    def test_each_refusal_is_a_class_of_its_own(self):
        self.assertEqual(len({getattr(errors, name) for name in NAMES}), len(NAMES))
        for name in NAMES:
            self.assertEqual(getattr(errors, name).__name__, name)

    def test_each_refusal_can_be_raised_and_taken(self):
        for name in NAMES:
            for taken in (getattr(errors, name), errors.CostError, ValueError):
                with self.subTest(name=name, taken=taken), self.assertRaises(taken):
                    raise getattr(errors, name)("some words")


if __name__ == "__main__":
    unittest.main()

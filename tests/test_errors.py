"""The error classes of the interface."""

import unittest

from forcemark import errors

BELOW = ("BadWeb", "BadSet", "BadSteps", "BadTree", "BadText")


class ErrorClasses(unittest.TestCase):
    def test_mark_error_stands_under_value_error(self):
        self.assertEqual(errors.MarkError.__bases__, (ValueError,))

    def test_each_refusal_stands_straight_under_mark_error(self):
        for name in BELOW:
            with self.subTest(name):
                self.assertEqual(getattr(errors, name).__bases__, (errors.MarkError,))

    def test_each_is_a_class_of_its_own(self):
        self.assertEqual(len({getattr(errors, name) for name in BELOW}), len(BELOW))

    def test_each_can_be_raised_and_taken_as_any_refusal(self):
        for name in BELOW:
            with self.subTest(name), self.assertRaises(errors.MarkError):
                raise getattr(errors, name)("words")


if __name__ == "__main__":
    unittest.main()

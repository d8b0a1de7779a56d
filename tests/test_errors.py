"""Point 3: the classes of the refusals."""

import unittest

from inkdays import errors

REFUSALS = (
    "NoSuchDay", "BadLength", "BadForm", "BadForms", "BadText", "NoSuchReading",
    "BadGap", "BadPlace", "HouseFull", "NotPossible", "NothingKept",
)


class ErrorClasses(unittest.TestCase):
    def test_ink_error_stands_straight_under_value_error(self):
        self.assertEqual(errors.InkError.__bases__, (ValueError,))

    def test_each_refusal_stands_straight_under_ink_error(self):
        for name in REFUSALS:
            with self.subTest(name):
                self.assertEqual(getattr(errors, name).__bases__, (errors.InkError,))

    def test_no_two_refusals_are_one_class(self):
        self.assertEqual(len({getattr(errors, name) for name in REFUSALS}), len(REFUSALS))

    def test_each_can_be_raised_with_words_and_taken_as_ink_error(self):
        for name in REFUSALS:
            with self.subTest(name), self.assertRaises(errors.InkError):
                raise getattr(errors, name)("words")


if __name__ == "__main__":
    unittest.main()

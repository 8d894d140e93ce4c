"""The errors: their classes, and that they keep their fields."""

import unittest

from duetickers import errors
from tests.told import Odd

WITH_PART = (
    "BadNumber", "BadName", "BadTongue", "BadProgram", "BadPuzzle", "BadFactor", "BadOrder", "BadDealer", "Misfit",
)
NAMES = WITH_PART + ("TooMany", "BadText")
VALUES = ("names", "", None, True, 0, -5, 10 ** 40, 1.5, [1, [2]], (1, (2,)), {"a": [1]}, object(), Odd())


class TestErrors(unittest.TestCase):
    def test_each_is_directly_below_the_base(self):
        for name in NAMES:
            self.assertEqual(getattr(errors, name).__bases__, (errors.TickError,), name)
        self.assertEqual(errors.TickError.__bases__, (ValueError,))

    def test_none_is_below_another_one(self):
        for name in NAMES:
            for other in NAMES:
                below = issubclass(getattr(errors, name), getattr(errors, other))
                self.assertEqual(below, name == other, (name, other))

    def test_none_is_below_another_error_of_python(self):
        for name in NAMES:
            for other in (TypeError, LookupError, KeyError, ArithmeticError, RuntimeError, OSError, UnicodeError):
                self.assertFalse(issubclass(getattr(errors, name), other), name)

    def test_each_is_defined_in_its_file(self):
        for name in NAMES + ("TickError",):
            self.assertEqual(getattr(errors, name).__module__, "duetickers.errors")

    def test_part_is_kept(self):
        for name in WITH_PART:
            for value in VALUES:
                self.assertIs(getattr(errors, name)(value).part, value)
                self.assertIs(getattr(errors, name)(part=value).part, value)

    def test_two_fields_are_kept(self):
        for value in VALUES:
            for other in VALUES:
                for error in (errors.TooMany(value, other), errors.TooMany(most=other, what=value)):
                    self.assertIs(error.what, value)
                    self.assertIs(error.most, other)
                for error in (errors.BadText(value, other), errors.BadText(item=other, line=value)):
                    self.assertIs(error.line, value)
                    self.assertIs(error.item, other)

    def test_lists_stay_lists(self):
        parts = [1, [2]]
        self.assertEqual(errors.Misfit(parts).part, [1, [2]])
        self.assertEqual(parts, [1, [2]])

    def test_wrong_numbers_of_fields(self):
        for name in WITH_PART:
            self.assertRaises(TypeError, getattr(errors, name))
            self.assertRaises(TypeError, getattr(errors, name), 1, 2)
        for name in ("TooMany", "BadText"):
            self.assertRaises(TypeError, getattr(errors, name), 1)
            self.assertRaises(TypeError, getattr(errors, name), 1, 2, 3)

    def test_raised_and_caught(self):
        for name in WITH_PART:
            with self.assertRaises(errors.TickError) as caught:
                raise getattr(errors, name)("names")
            self.assertEqual(caught.exception.part, "names")
        with self.assertRaises(ValueError):
            raise errors.TooMany("programs", 2000)


if __name__ == "__main__":
    unittest.main()

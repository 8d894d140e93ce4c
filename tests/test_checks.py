"""The checks: for any values, True or False."""

import unittest

from duetickers.checks import is_integer, is_name, is_pair, is_within
from tests.told import NO_INTEGERS, NO_LISTS, NO_STRINGS


class TestChecks(unittest.TestCase):
    def test_example(self):
        told = [is_integer(True), is_within(3, None, 3), is_name("010"), is_name(""), is_name("012"),
                is_pair([3, 2]), is_pair((0, 1)), is_pair([1, True])]
        self.assertEqual(told, [False, True, True, False, False, True, False, False])

    def test_integers(self):
        for value in (0, 1, -1, 2, 10 ** 300, -10 ** 300):
            self.assertIs(is_integer(value), True)
            self.assertIs(is_integer(value=value), True)
        for value in NO_INTEGERS:
            self.assertIs(is_integer(value), False)

    def test_within_both_bounds(self):
        for value in range(-3, 9):
            self.assertIs(is_within(value, 1, 4), 1 <= value <= 4)
            self.assertIs(is_within(value=value, least=1, most=4), 1 <= value <= 4)
        self.assertIs(is_within(5, 5, 5), True)
        self.assertIs(is_within(5, 6, 4), False)

    def test_within_without_bounds(self):
        for value in (-10 ** 50, -4, -3, 0, 3, 4, 10 ** 50):
            self.assertIs(is_within(value, None, 3), value <= 3)
            self.assertIs(is_within(value, -3, None), value >= -3)
            self.assertIs(is_within(value, None, None), True)
            self.assertIs(is_within(value, 0, None), value >= 0)
            self.assertIs(is_within(value, None, 0), value <= 0)

    def test_within_of_no_integers(self):
        for value in NO_INTEGERS:
            for least in (None, -5, 0):
                for most in (None, 5):
                    self.assertIs(is_within(value, least, most), False)

    def test_names(self):
        for value in ("0", "1", "00", "10", "01" * 30, "1" * 60, "0" * 59):
            self.assertIs(is_name(value), True)
            self.assertIs(is_name(value=value), True)
        for value in ("", "0" * 61, "01" * 1000, "2", "02", "20", "0 1", " 01", "01 ", "01\n", "o", "-1", "0b1", "0_1",
                      "\u0660", "\uff10", "\u00b9", "0" * 20000):
            self.assertIs(is_name(value), False, value)
        for value in NO_STRINGS:
            self.assertIs(is_name(value), False)

    def test_foreign_signs_at_any_place(self):
        for place in range(5):
            self.assertIs(is_name("01010"[:place] + "2" + "01010"[place:]), False)

    def test_pairs(self):
        for value in ([1, 1], (1, 1), [1000000, 1000000], (1, 1000000), [1000000, 1], [7, 14]):
            self.assertIs(is_pair(value), True)
            self.assertIs(is_pair(value=value), True)

    def test_no_pairs(self):
        for value in ([0, 1], [1, 0], (1000001, 1), (1, 1000001), [-1, 1], [1, -1], [], (), [1], (1,), [1, 1, 1],
                      [1, 1, 1, 1], [True, 1], (1, True), [1, False], [1.0, 1], [1, 1.0], ["1", "1"], [1, None],
                      [[1], 1], [[1, 1]], [(1, 1), (1, 1)], "11", {1: 1, 2: 2}, {1, 2}, b"ab", range(1, 3)):
            self.assertIs(is_pair(value), False, value)
        for value in NO_LISTS:
            self.assertIs(is_pair(value), False)

    def test_values_stay(self):
        pair = [3, 2]
        is_pair(pair)
        self.assertEqual(pair, [3, 2])


if __name__ == "__main__":
    unittest.main()

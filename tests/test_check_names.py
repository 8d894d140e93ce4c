"""The check of papers about names: which are right, and that any other value is not."""

import unittest
from fractions import Fraction
from itertools import permutations, product

from duetickers.check_names import shows_lengths
from duetickers.names import Crowded, Names, judged_lengths
from duetickers.papers import Denial, Paper
from tests.told import NO_INTEGERS, NO_LISTS, NO_STRINGS, Odd, error_of, seconds_of

TEXTS = ["".join(signs) for length in (1, 2, 3) for signs in product("01", repeat=length)]


class NamesBelow(Names):
    """A class of papers below Names, which Names does not make."""


class CrowdedBelow(Crowded):
    """A class of papers below Crowded, which Crowded does not make."""


def slow_right(lengths, names):
    """Whether the names are of these lengths and apart, by all pairs."""
    return [len(name) for name in names] == list(lengths) and not any(
        one.startswith(other) for one, other in permutations(names, 2))


class TestRightNames(unittest.TestCase):
    def test_examples(self):
        values = (Names(["1", "01", "00"]), Names(["0", "10", "10"]), Names(["0", "10"]), Names(["10", "0", "11"]),
                  Crowded(1, 1))
        self.assertEqual([shows_lengths([1, 2, 2], value) for value in values], [True, False, False, False, False])

    def test_against_all_pairs(self):
        for lengths in ([], [1], [2, 1], [1, 1], [2, 3], [1, 2, 2], [3, 1, 2], [2, 2, 2]):
            for many in range(4):
                for names in product(TEXTS, repeat=many):
                    self.assertIs(shows_lengths(lengths, Names(names)), slow_right(lengths, names), (lengths, names))

    def test_what_is_judged_is_right(self):
        for many in range(5):
            for lengths in product(range(1, 5), repeat=many):
                self.assertIs(shows_lengths(lengths, judged_lengths(lengths)), True)
        for lengths in ([60], [8] * 200, [60] * 200, [1] * 200, list(range(1, 60)) + [59], [7] * 129):
            self.assertIs(shows_lengths(lengths, judged_lengths(lengths)), True)
            self.assertIs(shows_lengths(value=judged_lengths(lengths), lengths=tuple(lengths)), True)

    def test_bent_in_one_sign(self):
        lengths = [3, 1, 2, 4, 4]
        names = judged_lengths(lengths).names
        for place, name in enumerate(names):
            for at in range(len(name)):
                turned = name[:at] + ("1" if name[at] == "0" else "0") + name[at + 1:]
                bent = names[:place] + (turned,) + names[place + 1:]
                self.assertIs(shows_lengths(lengths, Names(bent)), slow_right(lengths, bent))
                foreign = names[:place] + (name[:at] + "2" + name[at + 1:],) + names[place + 1:]
                self.assertIs(shows_lengths(lengths, Names(foreign)), False)

    def test_left_out_told_twice_or_turned(self):
        lengths = [2, 3, 3]
        names = ("00", "010", "011")
        self.assertIs(shows_lengths(lengths, Names(names)), True)
        for place in range(3):
            self.assertIs(shows_lengths(lengths, Names(names[:place] + names[place + 1:])), False)
            self.assertIs(shows_lengths(lengths, Names(names + names[place:place + 1])), False)
        for order, right in (((0, 2, 1), True), ((1, 0, 2), False), ((2, 1, 0), False)):
            self.assertIs(shows_lengths(lengths, Names([names[place] for place in order])), right)
        self.assertIs(shows_lengths(lengths, Names(("00", "010", "010"))), False)
        self.assertIs(shows_lengths(lengths, Names(("00", "01", "011"))), False)
        self.assertIs(shows_lengths([1], Names(["0", "1"])), False)
        self.assertIs(shows_lengths([], Names([""])), False)

    def test_names_are_right_without_being_the_given_ones(self):
        for names in (["111"], ["010"], ("000",)):
            self.assertIs(shows_lengths([3], Names(names)), True)

    def test_no_names_in_the_paper(self):
        for wrong in NO_STRINGS + ("", "2", "o"):
            self.assertIs(shows_lengths([1], Names([wrong])), False)
            self.assertIs(shows_lengths([1, 1], Names(["0", wrong])), False)
        for wrong in NO_LISTS:
            for lengths in ([], [1], [1, 1]):
                self.assertIs(shows_lengths(lengths, Names(wrong)), False)
        self.assertIs(shows_lengths([1], Names("0")), False)
        self.assertIs(shows_lengths([1], Names([["0"]])), False)
        self.assertIs(shows_lengths([], Names([])), True)


class TestRightCrowded(unittest.TestCase):
    def test_examples(self):
        values = (Crowded(5, 4), Crowded(10, 8), Crowded(4, 3), Names(["0", "1", "10"]), None)
        self.assertEqual([shows_lengths([1, 1, 2], value) for value in values], [True, False, False, False, False])

    def test_against_the_sum(self):
        for lengths in ([], [1], [1, 1], [1, 1, 1], [1, 1, 1, 1], [2, 1, 1], [3, 1, 1, 2], [1] * 3 + [3]):
            total = sum((Fraction(1, 2 ** length) for length in lengths), Fraction(0))
            for up in range(-2, 18):
                for down in range(-2, 9):
                    right = total > 1 and (up, down) == (total.numerator, total.denominator)
                    self.assertIs(shows_lengths(lengths, Crowded(up, down)), right)

    def test_just_above_one(self):
        lengths = list(range(1, 61)) + [60, 60]
        self.assertIs(shows_lengths(lengths, Crowded(2 ** 60 + 1, 2 ** 60)), True)
        self.assertIs(shows_lengths(lengths, Crowded(2 ** 60 + 2, 2 ** 60)), False)
        self.assertIs(shows_lengths(lengths, Crowded(1, 1)), False)
        self.assertIs(shows_lengths(lengths[:-1], Crowded(1, 1)), False)

    def test_no_numbers_in_the_paper(self):
        for wrong in NO_INTEGERS:
            self.assertIs(shows_lengths([1, 1, 1, 1], Crowded(2, wrong)), False)
            self.assertIs(shows_lengths([1, 1, 1, 1], Crowded(wrong, 1)), False)
        for parts in ((2, True), (2.0, 1), (2, 1.0), ("2", "1"), ([2], 1), ((2, 1), None)):
            self.assertIs(shows_lengths([1, 1, 1, 1], Crowded(*parts)), False)
        self.assertIs(shows_lengths([1, 1, 1, 1], Crowded(2, 1)), True)


class TestOtherValues(unittest.TestCase):
    def test_other_papers(self):
        for value in (Paper("names", ["0"]), Denial("names", ["0"]), Paper("crowded", 3, 2), Denial("crowded", 3, 2),
                      Paper("names"), Denial("crowded"), NamesBelow(["0"])):
            self.assertIs(shows_lengths([1], value), False)
        for value in (Denial("crowded", 3, 2), CrowdedBelow(3, 2), Paper("crowded", 3, 2)):
            self.assertIs(shows_lengths([1, 1, 1], value), False)

    def test_foreign_classes_of_the_same_names(self):
        names = type("Names", (), {"word": "names", "parts": (("0",),), "names": ("0",)})()
        crowded = type("Crowded", (), {"word": "crowded", "parts": (3, 2), "up": 3, "down": 2})()
        self.assertIs(shows_lengths([1], names), False)
        self.assertIs(shows_lengths([1, 1, 1], crowded), False)
        names = type("Names", (Paper,), {"names": ("0",)})("names", ("0",))
        crowded = type("Crowded", (Denial,), {"up": 3, "down": 2})("crowded", 3, 2)
        self.assertIs(shows_lengths([1], names), False)
        self.assertIs(shows_lengths([1, 1, 1], crowded), False)

    def test_no_papers(self):
        for value in NO_INTEGERS + NO_LISTS + (("0",), ["0"], ("names", ("0",)), (3, 2), Names, Crowded, Odd()):
            for lengths in ([], [1], [1, 1, 1]):
                self.assertIs(shows_lengths(lengths, value), False)

    def test_lists_and_tuples_alike(self):
        for lengths in ([1, 2], (1, 2)):
            for names in (["0", "10"], ("0", "10")):
                self.assertIs(shows_lengths(lengths, Names(names)), True)

    def test_wrong_lengths(self):
        for wrong in NO_INTEGERS + (0, 61, -1):
            for value in (Names(["0"]), Crowded(3, 2), None):
                self.assertEqual(error_of(shows_lengths, [wrong], value), ("BadNumber", "lengths"))
                self.assertEqual(error_of(shows_lengths, [1, wrong], value), ("BadNumber", "lengths"))
        for wrong in NO_LISTS + ([1] * 201,):
            self.assertEqual(error_of(shows_lengths, wrong, None), ("BadNumber", "lengths"))

    def test_what_is_passed_stays(self):
        lengths, names = [2, 1], ["00", "1"]
        self.assertIs(shows_lengths(lengths, Names(names)), True)
        self.assertEqual((lengths, names), ([2, 1], ["00", "1"]))

    def test_short_time(self):
        for lengths in ([60] * 200, [1] * 200):
            self.assertLess(seconds_of(shows_lengths, lengths, judged_lengths(lengths)), 2)


if __name__ == "__main__":
    unittest.main()

"""Names: apart, shares, free ones, cut texts, names of lengths."""

import unittest
from fractions import Fraction
from itertools import combinations, permutations, product

from duetickers.names import Crowded, Names, are_apart, cut_text, free_names, judged_lengths, share_of
from duetickers.papers import Paper
from tests.told import NO_INTEGERS, NO_LISTS, NO_STRINGS, error_of, seconds_of

BAD_NAMES = ("", "2", "0" * 61, "01 ", "o", "\u0661") + NO_STRINGS
SHORT = [""] + ["".join(signs) for length in (1, 2, 3) for signs in product("01", repeat=length)]


def texts_of(length):
    return ["".join(signs) for signs in product("01", repeat=length)]


def slow_apart(names):
    return not any(one.startswith(other) for one, other in permutations(names, 2))


def slow_free(names, start=""):
    """The free names behind start: it is cut in two as long as names begin with it."""
    if start in names:
        return []
    if start and not any(name.startswith(start) for name in names):
        return [start]
    return slow_free(names, start + "0") + slow_free(names, start + "1")


def slow_given(lengths):
    """The names as the document gives them, one by one."""
    given = {}
    for length, place in sorted((length, place) for place, length in enumerate(lengths)):
        given[place] = min(text for text in texts_of(length)
                           if not any(text.startswith(name) for name in given.values()))
    return tuple(given[place] for place in range(len(lengths)))


def slow_cuts(names, text):
    """All ways in which the text is put together."""
    if not text:
        return [()]
    return [(place,) + more for place, name in enumerate(names) if text.startswith(name)
            for more in slow_cuts(names, text[len(name):])]


class TestApart(unittest.TestCase):
    def test_examples(self):
        told = [are_apart(["0", "10", "110"]), are_apart(["0", "01"]), are_apart(["1", "1"]), are_apart([])]
        self.assertEqual(told, [True, False, False, True])

    def test_against_all_pairs(self):
        for many in (1, 2, 3):
            for names in product(SHORT[1:], repeat=many):
                self.assertIs(are_apart(names), slow_apart(names), names)

    def test_at_any_places(self):
        rest = ["000", "0010", "0011", "0100", "0101", "0111"]
        for place in range(7):
            for other in range(8):
                names = rest[:place] + ["10"] + rest[place:]
                self.assertIs(are_apart(names), True)
                for longer in ("10", "100", "1011111", "10" * 30):
                    self.assertIs(are_apart(names[:other] + [longer] + names[other:]), False)
                self.assertIs(are_apart(names[:other] + ["110"] + names[other:]), True)

    def test_names_of_sixty_signs(self):
        self.assertIs(are_apart(["0" * 60, "0" * 59 + "1"]), True)
        self.assertIs(are_apart(["0" * 60, "0" * 59]), False)
        self.assertIs(are_apart(["1" * 60, "0", "1" * 60]), False)

    def test_many(self):
        names = texts_of(8)
        self.assertIs(are_apart(names[:200]), True)
        self.assertIs(are_apart(names[:199] + ["0"]), False)
        self.assertIs(are_apart(names[:199] + [names[0]]), False)
        self.assertEqual(error_of(are_apart, names[:201]), ("BadName", "names"))

    def test_by_name(self):
        self.assertIs(are_apart(names=("0", "1")), True)


class TestShare(unittest.TestCase):
    def test_examples(self):
        self.assertEqual([share_of(["0", "10", "110"]), share_of(["0", "01"]), share_of([])], [(7, 8), (3, 4), (0, 1)])

    def test_sums(self):
        for names in (["0"], ["1", "1"], ["0", "1", "0"], ["0" * 60], ["1" * 60, "0"], texts_of(8)[:200], ["1"] * 200,
                      ("0101", "111", "0")):
            wanted = sum((Fraction(1, 2 ** len(name)) for name in names), Fraction(0))
            self.assertEqual(share_of(names), (wanted.numerator, wanted.denominator))
            self.assertEqual(share_of(names=names), (wanted.numerator, wanted.denominator))
        self.assertIs(type(share_of(["0"])), tuple)
        self.assertEqual(error_of(share_of, ["0"] * 201), ("BadName", "names"))


class TestFree(unittest.TestCase):
    def test_examples(self):
        told = [free_names(names) for names in (["0", "10", "110"], [], ["01"], ["101"], ["0", "1"])]
        self.assertEqual(told, [("111",), ("0", "1"), ("00", "1"), ("0", "100", "11"), ()])

    def test_against_cutting_in_two(self):
        for many in (0, 1, 2, 3, 4):
            for names in combinations(SHORT[1:], many):
                if slow_apart(names):
                    for turned in (list(names), names[::-1]):
                        self.assertEqual(free_names(turned), tuple(slow_free(names)), names)

    def test_full_and_apart(self):
        for names in (["0" * 60], ["01" * 30, "10" * 30], texts_of(8)[:200], ["1" * 13 + "0", "0110"]):
            free = free_names(names)
            self.assertIs(slow_apart(list(names) + list(free)), True)
            self.assertEqual(sum(Fraction(1, 2 ** len(name)) for name in [*names, *free]), 1)
            self.assertEqual(list(free), sorted(slow_free(names)))
        self.assertEqual(len(free_names(["0" * 60])), 60)

    def test_errors(self):
        self.assertEqual(error_of(free_names, ["0", "01"]), ("Misfit", "names"))
        self.assertEqual(error_of(free_names, ["0", "0"]), ("Misfit", "names"))
        self.assertEqual(error_of(free_names, ["0"] * 201), ("BadName", "names"))
        self.assertEqual(error_of(free_names, ["0", "0", ""]), ("BadName", "names"))
        self.assertEqual(free_names(names=("1",)), ("0",))


class TestCut(unittest.TestCase):
    def test_examples(self):
        names = ["0", "10", "110"]
        told = [cut_text(names, "0101100"), cut_text(names, "011"), cut_text(names, "111"), cut_text(names, ""),
                cut_text([], "1")]
        self.assertEqual(told, [(0, 1, 2, 0), None, None, (), None])

    def test_against_all_ways(self):
        for names in (("0", "10", "110"), ("10", "0"), ("111", "0", "1101"), ("00", "01", "10", "11"), ("101",), ()):
            for length in range(9):
                for text in texts_of(length):
                    cuts = slow_cuts(names, text)
                    self.assertEqual(cut_text(names, text), cuts[0] if cuts else None)

    def test_long_names(self):
        long = "01" * 29 + "1"
        self.assertEqual(cut_text([long + "1", "1", long + "0"], long + "01" + long + "1"), (2, 1, 0))
        self.assertIsNone(cut_text([long + "1", "1", long + "0"], long))
        self.assertEqual(cut_text(["0" * 60], "0" * 120), (0, 0))
        self.assertIsNone(cut_text(["0" * 60], "0" * 121))

    def test_lengths_of_texts(self):
        self.assertEqual(cut_text(["1"], "1" * 2000), (0,) * 2000)
        self.assertEqual(cut_text(["0", "1"], "01" * 1000), (0, 1) * 1000)
        self.assertEqual(error_of(cut_text, ["1"], "1" * 2001), ("BadName", "text"))
        self.assertEqual(cut_text([], ""), ())

    def test_wrong_texts(self):
        for text in NO_STRINGS + ("2", "1 1", "1" * 5 + "a", " ", "11\n", "\uff11"):
            self.assertEqual(error_of(cut_text, ["1"], text), ("BadName", "text"))
            self.assertEqual(error_of(cut_text, ["1", "1"], text), ("BadName", "text"))
            self.assertEqual(error_of(cut_text, ["1", ""], text), ("BadName", "names"))

    def test_not_apart(self):
        self.assertEqual(error_of(cut_text, ["1", "10"], ""), ("Misfit", "names"))
        self.assertEqual(error_of(cut_text, ["1", "1"], "1"), ("Misfit", "names"))
        self.assertEqual(error_of(cut_text, ["1", "1"], "1" * 2001), ("BadName", "text"))
        self.assertEqual(error_of(cut_text, ["1"] * 201, "2"), ("BadName", "names"))

    def test_by_name(self):
        self.assertEqual(cut_text(text="110", names=("10", "1100", "0", "1101")), None)
        self.assertEqual(cut_text(text="100", names=("10", "0")), (0, 1))


class TestLengths(unittest.TestCase):
    def test_examples(self):
        told = [judged_lengths([1, 2, 2]).names, judged_lengths([2, 1, 2]).names, judged_lengths([3, 1]).names,
                judged_lengths([1, 1, 2]) == Crowded(5, 4), judged_lengths([]) == Names([])]
        self.assertEqual(told, [("0", "10", "11"), ("10", "0", "11"), ("100", "0"), True, True])

    def test_as_given_one_by_one(self):
        for many in range(5):
            for lengths in product(range(1, 5), repeat=many):
                total = sum((Fraction(1, 2 ** length) for length in lengths), Fraction(0))
                told = judged_lengths(lengths)
                if total <= 1:
                    self.assertEqual(told, Names(slow_given(lengths)))
                else:
                    self.assertEqual(told, Crowded(total.numerator, total.denominator))
                self.assertIs(bool(told), total <= 1)

    def test_far_bounds(self):
        self.assertEqual(judged_lengths([60]).names, ("0" * 60,))
        self.assertEqual(judged_lengths([60, 60]).names, ("0" * 60, "0" * 59 + "1"))
        self.assertEqual(judged_lengths([60, 1, 60]).names, ("1" + "0" * 59, "0", "1" + "0" * 58 + "1"))
        steps = list(range(1, 60)) + [59]
        self.assertEqual(judged_lengths(steps).names, tuple("1" * k + "0" for k in range(59)) + ("1" * 59,))
        self.assertEqual(judged_lengths(steps + [60]), Crowded(2 ** 60 + 1, 2 ** 60))
        self.assertEqual(judged_lengths([60] + list(range(1, 60))[::-1] + [60]).names[-1], "1" * 60)

    def test_many(self):
        self.assertEqual(judged_lengths([8] * 200).names, tuple(texts_of(8)[:200]))
        self.assertEqual(judged_lengths([7] * 128).names, tuple(texts_of(7)))
        self.assertEqual(judged_lengths([7] * 129), Crowded(129, 128))
        self.assertEqual(judged_lengths([1] * 200), Crowded(100, 1))
        self.assertEqual(error_of(judged_lengths, [8] * 201), ("BadNumber", "lengths"))

    def test_wrong_lengths(self):
        for wrong in NO_INTEGERS + (0, 61, -1, 10 ** 30):
            for lengths in ([wrong], [1, wrong], (wrong, 1)):
                self.assertEqual(error_of(judged_lengths, lengths), ("BadNumber", "lengths"))
        for lengths in NO_LISTS:
            self.assertEqual(error_of(judged_lengths, lengths), ("BadNumber", "lengths"))

    def test_by_name_and_what_is_passed_stays(self):
        lengths = [3, 1]
        told = judged_lengths(lengths=lengths)
        lengths.append(60)
        self.assertEqual(lengths, [3, 1, 60])
        self.assertEqual((told.names, told.parts, told.word), (("100", "0"), (("100", "0"),), "names"))
        self.assertTrue(isinstance(told, Names) and isinstance(told, Paper))


class TestNamesArgument(unittest.TestCase):
    def test_wrong_names(self):
        for wrong in BAD_NAMES:
            for names in ([wrong], ["0", wrong], (wrong, "0"), ["0", "0", wrong]):
                for call in (are_apart, share_of, free_names):
                    self.assertEqual(error_of(call, names), ("BadName", "names"))
                self.assertEqual(error_of(cut_text, names, "0"), ("BadName", "names"))

    def test_no_lists(self):
        for names in NO_LISTS:
            for call in (are_apart, share_of, free_names):
                self.assertEqual(error_of(call, names), ("BadName", "names"))
            self.assertEqual(error_of(cut_text, names, "0"), ("BadName", "names"))

    def test_what_is_passed_stays(self):
        names = ["110", "0", "10"]
        for call in (are_apart, share_of, free_names):
            call(names)
        cut_text(names, "0")
        self.assertEqual(names, ["110", "0", "10"])

    def test_lists_and_tuples_alike(self):
        for names in ((), ("0", "10"), ("111", "0")):
            for call in (are_apart, share_of, free_names):
                self.assertEqual(call(list(names)), call(names))
            self.assertEqual(cut_text(list(names), "00"), cut_text(names, "00"))


class TestShortTimes(unittest.TestCase):
    def test_outermost_bounds(self):
        names = [text + "0" * 52 for text in texts_of(8)[:200]]
        text = "".join(names[place] for place in range(33))
        for call, given in ((are_apart, (names,)), (share_of, (names,)), (free_names, (names,)),
                            (cut_text, (names, text)), (cut_text, (["0", "1"], "01" * 1000)),
                            (judged_lengths, ([60] * 200,)), (judged_lengths, ([1] * 200,))):
            self.assertLess(seconds_of(call, *given), 2)
        self.assertEqual(cut_text(names, text), tuple(range(33)))


if __name__ == "__main__":
    unittest.main()

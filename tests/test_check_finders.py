"""The check of papers of the finder: right is just the one that is told."""

import unittest

from duetickers.check_finders import shows_found, shows_found_among
from duetickers.factors import Crowd, Kept
from duetickers.finders import Found, NotYet, find, find_among
from duetickers.papers import Denial, Paper
from duetickers.puzzles import Puzzle, Same
from tests.lots import GREAT_CROWDED, MOST
from tests.tongue_list import ALL, PLAIN, SHORT
from tests.told import NO_INTEGERS, NO_LISTS, Odd, error_of, seconds_of

BOUND = 10 ** 18
SAME = Puzzle("a n =")
NEVER = Puzzle("a a <")
ROUNDS = [["up", "say"], ["swap", "say"]]
TWO = [[2, 1], [2, 1]]
OTHERS = NO_INTEGERS + NO_LISTS + ((0, ("say",), 4, 54), "found", Found, NotYet, Odd(), Same(53), Kept(0, 4), Crowd(4, 54))


class FoundBelow(Found):
    """A class of papers below Found, which Found does not make."""


class NotYetBelow(NotYet):
    """A class of papers below NotYet, which NotYet does not make."""


class TestExamples(unittest.TestCase):
    def test_found(self):
        told = [shows_found(PLAIN, SAME, 0, 100, Found(0, ["say"], 4, 54)),
                shows_found(PLAIN, SAME, 0, 100, Found(0, ["say"], 4, 55)), shows_found(PLAIN, SAME, 0, 53, NotYet(53))]
        self.assertEqual(told, [True, False, True])

    def test_found_among(self):
        self.assertIs(shows_found_among(ROUNDS, TWO, SAME, 5, 100, Found(5, ["up", "say"], 29, 58)), False)
        self.assertIs(shows_found_among(ROUNDS, TWO, SAME, 5, 100, Found(5, ["swap", "say"], 5, 10)), True)


class TestRight(unittest.TestCase):
    def test_what_is_told_is_right(self):
        for tongue in ALL:
            for text in ("a n =", "a 1 =", "a a <", "n a <"):
                for given, most in ((3, 1), (3, 500), (0, 2000), (-BOUND, 2000)):
                    told = find(tongue, Puzzle(text), given, most)
                    self.assertIs(shows_found(tongue, Puzzle(text), given, most, told), True)
                    self.assertIs(shows_found(value=told, most=most, given=given, puzzle=Puzzle(text), tongue=tongue), True)
                    told = find_among(ROUNDS, TWO, Puzzle(text), given, most)
                    self.assertIs(shows_found_among(ROUNDS, TWO, Puzzle(text), given, most, told), True)
                    self.assertIs(shows_found_among(value=told, most=most, given=given, puzzle=Puzzle(text), factors=TWO,
                                                    programs=ROUNDS), True)

    def test_parts_as_lists_and_tuples(self):
        for program in (["say"], ("say",)):
            self.assertIs(shows_found(PLAIN, SAME, 0, 100, Found(0, program, 4, 54)), True)
        for program in (["swap", "say"], ("swap", "say")):
            for programs in (ROUNDS, tuple(map(tuple, ROUNDS))):
                self.assertIs(shows_found_among(programs, TWO, SAME, 5, 100, Found(5, program, 5, 10)), True)

    def test_each_part_changed(self):
        told = find_among(ROUNDS, TWO, SAME, 5, 100)
        parts = told.parts
        for place in (0, 2, 3):
            for number in (-1, 0, 1, 2, 4, 6, 9, 11, 10 ** 30):
                bent = parts[:place] + (number,) + parts[place + 1:]
                self.assertIs(shows_found_among(ROUNDS, TWO, SAME, 5, 100, Found(*bent)), False)
        for program in ((), ("swap",), ("say",), ("say", "swap"), ("up", "say"), ("swap", "say", "say"), "swap say", None,
                        ["swap", ["say"]], [["swap", "say"]], ("swap", None), 5, {"swap": 1, "say": 2}):
            self.assertIs(shows_found_among(ROUNDS, TWO, SAME, 5, 100, Found(5, program, 5, 10)), False)
        for tick in range(-1, 60):
            self.assertIs(shows_found(PLAIN, SAME, 0, 53, NotYet(tick)), tick == 53)
            self.assertIs(shows_found_among([[]], [(1, 1)], SAME, 0, 53, NotYet(tick)), tick == 53)

    def test_no_numbers_in_the_paper(self):
        for wrong in NO_INTEGERS:
            for parts in ((wrong, ("say",), 4, 54), (0, ("say",), wrong, 54), (0, ("say",), 4, wrong),
                          (0, wrong, 4, 54), (0, (wrong,), 4, 54)):
                self.assertIs(shows_found(PLAIN, SAME, 0, 100, Found(*parts)), False)
            self.assertIs(shows_found(PLAIN, SAME, 0, 1, NotYet(wrong)), False)
            self.assertIs(shows_found_among(ROUNDS, TWO, SAME, 5, 1, NotYet(wrong)), False)
        self.assertIs(shows_found(PLAIN, SAME, 0, 100, Found(False, ("say",), 4, 54)), False)
        self.assertIs(shows_found_among([["up", "say"]], [(1, 1)], SAME, 1, 9, Found(1, ("up", "say"), 5, 5)), True)
        self.assertIs(shows_found_among([["up", "say"]], [(1, 1)], SAME, 1, 9, Found(True, ("up", "say"), 5, 5)), False)
        self.assertIs(shows_found(PLAIN, SAME, 0, 1, NotYet(1)), True)
        self.assertIs(shows_found(PLAIN, SAME, 0, 1, NotYet(True)), False)

    def test_a_found_one_for_a_not_yet_one(self):
        self.assertIs(shows_found(PLAIN, SAME, 0, 53, Found(0, ["say"], 4, 54)), False)
        self.assertIs(shows_found(PLAIN, SAME, 0, 54, Found(0, ["say"], 4, 54)), True)
        self.assertIs(shows_found(PLAIN, SAME, 0, 54, NotYet(54)), False)
        self.assertIs(shows_found(PLAIN, SAME, 0, 100, NotYet(100)), False)
        self.assertIs(shows_found(PLAIN, SAME, 0, 100, NotYet(53)), False)
        self.assertIs(shows_found_among(ROUNDS, TWO, SAME, 5, 9, Found(5, ["swap", "say"], 5, 10)), False)

    def test_another_answer_that_is_right_but_later(self):
        later = find_among([["up", "say"]], [[2, 1]], SAME, 5, 100)
        self.assertEqual(later.parts[:3], (5, ("up", "say"), 29))
        self.assertIs(shows_found_among(ROUNDS, TWO, SAME, 5, 100, Found(*later.parts[:3], 58)), False)

    def test_papers_of_other_classes(self):
        for value in (Paper("found", 0, ("say",), 4, 54), Denial("found", 0, ("say",), 4, 54), Paper("found"),
                      FoundBelow(0, ("say",), 4, 54)):
            self.assertIs(shows_found(PLAIN, SAME, 0, 100, value), False)
        for value in (Paper("notyet", 53), Denial("notyet", 53), Denial("notyet"), NotYetBelow(53), Same(53)):
            self.assertIs(shows_found(PLAIN, SAME, 0, 53, value), False)
        found = type("Found", (Paper,), {"answer": 0, "program": ("say",), "step": 4, "tick": 54})
        self.assertIs(shows_found(PLAIN, SAME, 0, 100, found("found", 0, ("say",), 4, 54)), False)
        late = type("NotYet", (Denial,), {"tick": 53})
        self.assertIs(shows_found(PLAIN, SAME, 0, 53, late("notyet", 53)), False)

    def test_any_other_values(self):
        for value in OTHERS:
            self.assertIs(shows_found(PLAIN, SAME, 0, 100, value), False)
            self.assertIs(shows_found(PLAIN, SAME, 0, 53, value), False)
            self.assertIs(shows_found_among(ROUNDS, TWO, SAME, 5, 100, value), False)


class TestErrors(unittest.TestCase):
    def test_those_of_find(self):
        for value in (None, Found(0, ["say"], 4, 54), NotYet(53)):
            given = [PLAIN, SAME, 0, 53, value]
            for place, wanted in ((3, ("BadNumber", "most")), (2, ("BadNumber", "given")), (1, ("BadPuzzle", "puzzle")),
                                  (0, ("BadTongue", "tongue"))):
                given[place] = None
                self.assertEqual(error_of(shows_found, *given), wanted)

    def test_those_of_find_among(self):
        for value in (None, Found(0, ["say"], 4, 54), NotYet(53)):
            given = [ROUNDS, [(1, 1)], SAME, 0, 5, value]
            self.assertEqual(error_of(shows_found_among, *given), ("Misfit", "factors"))
            for place, wanted in ((4, ("BadNumber", "most")), (3, ("BadNumber", "given")), (2, ("BadPuzzle", "puzzle")),
                                  (1, ("BadFactor", "factors")), (0, ("BadProgram", "programs"))):
                given[place] = None
                self.assertEqual(error_of(shows_found_among, *given), wanted)

    def test_bounds(self):
        for most in (0, 20001, True):
            self.assertEqual(error_of(shows_found, PLAIN, SAME, 0, most, None), ("BadNumber", "most"))
            self.assertEqual(error_of(shows_found_among, ROUNDS, TWO, SAME, 0, most, None), ("BadNumber", "most"))
        for given in (BOUND + 1, -BOUND - 1):
            self.assertEqual(error_of(shows_found, PLAIN, SAME, given, 9, None), ("BadNumber", "given"))
            self.assertEqual(error_of(shows_found_among, ROUNDS, TWO, SAME, given, 9, None), ("BadNumber", "given"))

    def test_what_is_passed_stays(self):
        programs, factors = [["up", "say"], ["swap", "say"]], [[4, 2], [2, 1]]
        shows_found_among(programs, factors, SAME, 5, 100, NotYet(100))
        self.assertEqual((programs, factors), ([["up", "say"], ["swap", "say"]], [[4, 2], [2, 1]]))

    def test_short_time(self):
        for tongue in (PLAIN, SHORT):
            self.assertIs(shows_found(tongue, NEVER, 3, 20000, NotYet(20000)), True)
            self.assertLess(seconds_of(shows_found, tongue, NEVER, 3, 20000, NotYet(20000)), 3)
        programs = [["say", "up", "times", "skip", "swap"] * 40] * 40
        for lot in (GREAT_CROWDED, [(1, MOST)] * 40):
            self.assertLess(seconds_of(shows_found_among, programs, lot, NEVER, 3, 20000, NotYet(20000)), 3)


if __name__ == "__main__":
    unittest.main()

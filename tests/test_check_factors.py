"""The check of papers about factors: which are right, and that any other value is not."""

import unittest
from random import Random

from duetickers.check_factors import shows_factors
from duetickers.factors import Crowd, Kept, due_by, judged_factors
from duetickers.papers import Denial, Paper
from tests.lots import (BROKEN, GREAT_CROWDED, GREAT_KEPT, HALF, MOST, ODD, just_kept, slow_due, slow_sum, some_lots,
                        told)
from tests.told import NO_INTEGERS, NO_LISTS, Odd, error_of, seconds_of

FAR = 10 ** 300
OTHERS = NO_INTEGERS + NO_LISTS + ((1, 1), [1, 1], ("kept", (1, 1)), "kept", Kept, Crowd, Odd())


class KeptBelow(Kept):
    """A class of papers below Kept, which Kept does not make."""


class CrowdBelow(Crowd):
    """A class of papers below Crowd, which Crowd does not make."""


class TestKept(unittest.TestCase):
    def test_examples(self):
        found = [shows_factors(ODD, Crowd(6, 7)), shows_factors(ODD, Crowd(12, 14)), shows_factors(ODD, Crowd(7, 7)),
                 shows_factors(HALF, Kept(1, 1)), shows_factors(HALF, Kept(2, 2)), shows_factors(ODD, Kept(7, 6))]
        self.assertEqual(found, [True, True, False, True, False, False])

    def test_what_is_judged_is_right(self):
        for lot in some_lots() + [GREAT_KEPT, GREAT_CROWDED]:
            self.assertIs(shows_factors(lot, judged_factors(lot)), True)
            self.assertIs(shows_factors(value=judged_factors(lot), factors=tuple(lot)), True)

    def test_against_the_sum(self):
        for lot in some_lots():
            total = slow_sum(lot)
            up, down = told(total)
            for one, other in ((up, down), (up + 1, down), (up, down + 1), (2 * up, 2 * down), (-up, -down), (down, up),
                               (up - down, down), (0, 1), (1, 1), (1, 2)):
                right = total <= 1 and (one, other) == (up, down)
                self.assertIs(shows_factors(lot, Kept(one, other)), right, (lot, one, other))

    def test_not_reduced(self):
        for times in (2, 3, -1, 10 ** 9):
            self.assertIs(shows_factors([(3, 2)], Kept(2 * times, 3 * times)), False)
        self.assertIs(shows_factors([(6, 4)], Kept(2, 3)), True)
        self.assertIs(shows_factors([(6, 4)], Kept(4, 6)), False)

    def test_no_numbers_in_the_paper(self):
        for wrong in NO_INTEGERS:
            self.assertIs(shows_factors([(1, 1)], Kept(wrong, 1)), False)
            self.assertIs(shows_factors([(1, 1)], Kept(1, wrong)), False)
        for parts in ((True, True), (1, True), (1.0, 1), ("1", "1"), ([1], 1), ((1, 1), None)):
            self.assertIs(shows_factors(HALF, Kept(*parts)), False)


class TestCrowd(unittest.TestCase):
    def test_ticks_that_no_function_returns(self):
        for lot in (ODD, [(1, 2)], [(1, 1), (5, 1)], [(2, 1), (3, 1), (5, 1), (7, 1)]):
            for tick in range(-3, 70):
                many = sum(slow_due(lot, tick))
                for bent in (many - 1, many, many + 1):
                    right = tick >= 1 and bent == many and many > tick
                    self.assertIs(shows_factors(lot, Crowd(tick, bent)), right, (lot, tick, bent))

    def test_ticks_at_the_bound_and_one_beyond(self):
        for lot in (ODD, GREAT_CROWDED, [(1, MOST)]):
            for tick in (FAR, FAR - 1):
                many = sum(slow_due(lot, tick))
                self.assertIs(shows_factors(lot, Crowd(tick, many)), True)
                self.assertIs(shows_factors(lot, Crowd(tick, many + 1)), False)
            for tick in (FAR + 1, 6 * FAR, 10 ** 301):
                self.assertIs(shows_factors(lot, Crowd(tick, sum(slow_due(lot, tick)))), False)

    def test_of_lots_that_are_kept(self):
        luck = Random(3)
        for lot in (HALF, BROKEN, [(1, 1)], GREAT_KEPT, just_kept(luck, 40)):
            for tick in (1, 2, 8, 10 ** 20, FAR):
                many = sum(slow_due(lot, tick))
                self.assertIs(shows_factors(lot, Crowd(tick, many)), False)
                self.assertIs(shows_factors(lot, Crowd(tick, tick + 1)), False)

    def test_no_numbers_in_the_paper(self):
        for wrong in NO_INTEGERS:
            self.assertIs(shows_factors([(1, 2)], Crowd(wrong, 2)), False)
            self.assertIs(shows_factors([(1, 2)], Crowd(1, wrong)), False)
        self.assertIs(shows_factors([(1, 2)], Crowd(1, 2)), True)
        for parts in ((True, 2), (1.0, 2), (1, 2.0), ("1", "2"), ([1], 2), (None, None)):
            self.assertIs(shows_factors([(1, 2)], Crowd(*parts)), False)


class TestOtherValues(unittest.TestCase):
    def test_other_papers(self):
        self.assertEqual(due_by([(1, 2)], 1), (2,))
        for value in (Paper("kept", 1, 1), Denial("kept", 1, 1), KeptBelow(1, 1), Paper("kept"), Crowd(1, 1)):
            self.assertIs(shows_factors([(1, 1)], value), False)
        for value in (Paper("crowd", 1, 2), Denial("crowd", 1, 2), CrowdBelow(1, 2), Denial("crowd"), Kept(1, 2)):
            self.assertIs(shows_factors([(1, 2)], value), False)

    def test_foreign_classes_of_the_same_names(self):
        for base, parts in ((object, {}), (Paper, {"__init__": lambda self: None})):
            for up, down in ((1, 1), (2, 1)):
                kept = type("Kept", (base,), dict(parts, word="kept", parts=(up, down), up=up, down=down))()
                crowd = type("Crowd", (base,), dict(parts, word="crowd", parts=(1, 2), tick=1, many=2))()
                self.assertIs(shows_factors([(1, 1)], kept), False)
                self.assertIs(shows_factors([(1, 2)], crowd), False)

    def test_no_papers(self):
        for value in OTHERS:
            for lot in (HALF, ODD, [(1, 1)], [(1, 2)]):
                self.assertIs(shows_factors(lot, value), False)

    def test_wrong_factors(self):
        for value in (Kept(1, 1), Crowd(6, 7), None):
            for wrong in NO_LISTS + ([], [(1, 1)] * 41, [(1, True)], [(0, 1)], [(1, MOST + 1)], [(1, 1, 1)], (1, 1)):
                self.assertEqual(error_of(shows_factors, wrong, value), ("BadFactor", "factors"))

    def test_what_is_passed_stays(self):
        lot = [[6, 4], [3, 1]]
        self.assertIs(shows_factors(lot, Kept(1, 1)), True)
        self.assertEqual(lot, [[6, 4], [3, 1]])

    def test_short_time(self):
        for value in (judged_factors(GREAT_CROWDED), Crowd(FAR, sum(slow_due(GREAT_CROWDED, FAR)))):
            self.assertLess(seconds_of(shows_factors, GREAT_CROWDED, value), 2)


if __name__ == "__main__":
    unittest.main()

"""Factors: sums of shares, what is due, lots that are kept and crowded."""

import unittest
from fractions import Fraction
from random import Random

from duetickers.factors import Crowd, Kept, due_by, factors_of, judged_factors, scaled, share_sum
from tests.lots import (BROKEN, GREAT_CROWDED, GREAT_KEPT, HALF, MOST, ODD, great_lot, just_kept, lot_with_part, slow_due,
                        slow_sum, some_lots, told)
from tests.told import NO_INTEGERS, NO_LISTS, error_of, seconds_of

FAR = 10 ** 30
CALLS = (share_sum, scaled, judged_factors, lambda factors: due_by(factors, 5))
NO_PAIRS = NO_LISTS + ([], (), [1], (1, 1, 1), [1, 1, 1], [1, [1]], [[1, 1]], "11", b"ab", {1: 1, 2: 2}, {1, 2}, 3, "3")
NO_PARTS = NO_INTEGERS + (0, -1, MOST + 1, 10 ** 30, -MOST)


class TestExamples(unittest.TestCase):
    def test_sums_and_dues(self):
        found = [share_sum(HALF), share_sum(ODD), share_sum([(3, 2), (3, 1)]), due_by(HALF, 8), due_by(ODD, 6),
                 due_by([(3, 2)], 5)]
        self.assertEqual(found, [(1, 1), (7, 6), (1, 1), (4, 2, 2), (3, 2, 2), (3,)])

    def test_lengths_and_scaled(self):
        self.assertEqual([factors_of([1, 2, 19]), scaled(ODD), scaled([(4, 1)])],
                         [((2, 1), (4, 1), (524288, 1)), ((7, 3), (7, 2), (7, 2)), ((1, 1),)])

    def test_judged(self):
        found = [judged_factors(HALF).parts, bool(judged_factors(ODD)),
                 judged_factors(ODD).many > judged_factors(ODD).tick]
        self.assertEqual(found, [(1, 1), False, True])
        self.assertEqual(error_of(share_sum, []), ("BadFactor", "factors"))


class TestArguments(unittest.TestCase):
    def test_one_to_forty_pairs(self):
        for many in (1, 2, 39, 40):
            lot = [(3, 2)] * many
            for call in CALLS:
                self.assertIsNone(error_of(call, lot))
            self.assertEqual(share_sum(lot), told(Fraction(2 * many, 3)))
        for lot in ([], (), [(3, 2)] * 41, [(3, 2)] * 4000):
            for call in CALLS:
                self.assertEqual(error_of(call, lot), ("BadFactor", "factors"))

    def test_parts_at_the_bounds(self):
        for lot in ([(1, 1)], [(MOST, MOST)], [(1, MOST)], [(MOST, 1)], [(MOST, 1), (1, MOST)]):
            self.assertEqual(share_sum(lot), told(slow_sum(lot)))
        for wrong in NO_PARTS:
            for lot in ([(wrong, 1)], [(1, wrong)], [(1, 1), (wrong, 1)], [(1, wrong), (1, 1)], [[1, wrong]]):
                for call in CALLS:
                    self.assertEqual(error_of(call, lot), ("BadFactor", "factors"))

    def test_no_pairs(self):
        for wrong in NO_PAIRS:
            for call in CALLS:
                self.assertEqual(error_of(call, [wrong]), ("BadFactor", "factors"))
                self.assertEqual(error_of(call, [(1, 1), wrong]), ("BadFactor", "factors"))
        for wrong in NO_LISTS + ((1, 1), [1, 1], {(1, 1): 1}, {(1, 1)}):
            for call in CALLS:
                self.assertEqual(error_of(call, wrong), ("BadFactor", "factors"))

    def test_lists_and_tuples_alike(self):
        for call in CALLS:
            for lot in (ODD, tuple(ODD), [list(pair) for pair in ODD], tuple(list(pair) for pair in ODD)):
                self.assertEqual(call(lot), call(ODD))

    def test_what_is_passed_stays(self):
        lot = [[6, 4], (3, 1)]
        for call in CALLS:
            call(lot)
            self.assertEqual(lot, [[6, 4], (3, 1)])

    def test_ticks_at_the_bounds(self):
        self.assertEqual(due_by(ODD, 0), (0, 0, 0))
        self.assertEqual(due_by(tick=FAR, factors=BROKEN), (2 * FAR // 3, FAR // 3))
        for wrong in NO_INTEGERS + (-1, FAR + 1, -FAR):
            self.assertEqual(error_of(due_by, ODD, wrong), ("BadNumber", "tick"))
        self.assertEqual(error_of(due_by, [], -1), ("BadFactor", "factors"))
        self.assertEqual(error_of(due_by, [(1, True)], None), ("BadFactor", "factors"))

    def test_by_name(self):
        self.assertEqual(share_sum(factors=ODD), (7, 6))
        self.assertEqual(scaled(factors=[(4, 1)]), ((1, 1),))
        self.assertEqual(judged_factors(factors=HALF), Kept(1, 1))
        self.assertEqual(factors_of(lengths=[3]), ((8, 1),))


class TestFactors(unittest.TestCase):
    def test_sums_by_fractions(self):
        for lot in some_lots() + [GREAT_KEPT, GREAT_CROWDED]:
            self.assertEqual(share_sum(lot), told(slow_sum(lot)))
        self.assertEqual(share_sum([(6, 4), (12, 4)]), (1, 1))

    def test_dues_by_fractions(self):
        for lot in some_lots() + [GREAT_KEPT, GREAT_CROWDED]:
            for tick in (0, 1, 2, 3, 7, 60, 999999, 10 ** 17, FAR - 1, FAR):
                self.assertEqual(due_by(lot, tick), slow_due(lot, tick))

    def test_lengths(self):
        self.assertEqual(factors_of(list(range(1, 20))), tuple((2 ** length, 1) for length in range(1, 20)))
        self.assertEqual(factors_of((5,) * 40), ((32, 1),) * 40)
        self.assertEqual(share_sum(factors_of([1, 2, 3, 3])), (1, 1))
        for wrong in NO_LISTS + ([], (), [1] * 41, 5, "5"):
            self.assertEqual(error_of(factors_of, wrong), ("BadNumber", "lengths"))
        for wrong in NO_INTEGERS + (0, 20, -1, 10 ** 30):
            self.assertEqual(error_of(factors_of, [wrong]), ("BadNumber", "lengths"))
            self.assertEqual(error_of(factors_of, [1, 2, wrong]), ("BadNumber", "lengths"))

    def test_scaled_by_fractions(self):
        for lot in some_lots():
            total = slow_sum(lot)
            wanted = tuple(told(Fraction(up, down) * total) for up, down in lot)
            if max(map(max, wanted)) <= FAR:
                self.assertEqual(scaled(lot), wanted)
                self.assertEqual(sum(Fraction(down, up) for up, down in scaled(lot)), 1)
            else:
                self.assertEqual(error_of(scaled, lot), ("TooMany", "factor", FAR))

    def test_scaled_near_the_bound(self):
        luck, kept, refused = Random(17), 0, 0
        for _ in range(400):
            lot = [(luck.randrange(700000, MOST + 1), luck.randrange(1, 5)) for _ in range(6)]
            wanted = tuple(told(Fraction(up, down) * slow_sum(lot)) for up, down in lot)
            if max(map(max, wanted)) <= FAR:
                kept += 1
                self.assertEqual(scaled(lot), wanted)
            else:
                refused += 1
                self.assertEqual(error_of(scaled, lot), ("TooMany", "factor", FAR))
        self.assertGreater(kept, 20)
        self.assertGreater(refused, 20)
        for lot in (GREAT_KEPT, GREAT_CROWDED):
            self.assertEqual(error_of(scaled, lot), ("TooMany", "factor", FAR))

    def test_scaled_just_at_the_bound(self):
        lot = lot_with_part(FAR, MOST)
        found = scaled(lot)
        self.assertEqual((found[0][0], max(map(max, found))), (FAR, FAR))
        self.assertEqual(found, tuple(told(Fraction(up, down) * slow_sum(lot)) for up, down in lot))
        # 603961 divides 10 ** 30 + 1.
        lot = lot_with_part(FAR + 1, 603961)
        self.assertEqual(max(max(told(Fraction(up, down) * slow_sum(lot))) for up, down in lot), FAR + 1)
        self.assertEqual(error_of(scaled, lot), ("TooMany", "factor", FAR))


class TestJudged(unittest.TestCase):
    def judged(self, lot):
        """Whether the paper of the lot is right, by the tests' own fractions; and the paper."""
        paper, total = judged_factors(lot), slow_sum(lot)
        if total <= 1:
            self.assertEqual((type(paper), paper.parts, paper.word), (Kept, told(total), "kept"))
        else:
            self.assertEqual((type(paper), paper.word), (Crowd, "crowd"))
            self.assertTrue(1 <= paper.tick <= 10 ** 300)
            self.assertEqual(paper.many, sum(slow_due(lot, paper.tick)))
            self.assertGreater(paper.many, paper.tick)
        self.assertEqual(judged_factors(tuple(list(pair) for pair in lot)), paper)
        return paper

    def test_some_lots(self):
        truths = [bool(self.judged(lot)) for lot in some_lots()]
        self.assertIn(True, truths)
        self.assertIn(False, truths)

    def test_just_one_and_just_above(self):
        luck = Random(13)
        for many in (1, 2, 7, 40):
            lot = just_kept(luck, many)
            self.assertEqual(self.judged(lot), Kept(1, 1))
            up, down = lot[-1]
            self.assertIs(bool(self.judged(lot[:-1] + [(up * 1000 - 1, down * 1000)])), False)
            self.assertIs(bool(self.judged(lot[:-1] + [(up * 1000 + 1, down * 1000)])), True)
        self.assertEqual(self.judged([(MOST, 999999)]), Kept(999999, MOST))
        self.assertIs(bool(self.judged([(999999, MOST)])), False)
        self.assertIs(bool(self.judged([(1, 1), (MOST, 1)])), False)

    def test_forty_great_factors(self):
        luck = Random(14)
        self.assertIs(bool(self.judged(GREAT_KEPT)), True)
        self.assertIs(bool(self.judged(GREAT_CROWDED)), False)
        for _ in range(30):
            self.judged(great_lot(luck, MOST, 24000))
            self.judged(great_lot(luck, MOST, 55000))
        crowded = judged_factors([(number, MOST) for number in range(MOST - 39, MOST + 1)])
        self.assertGreater(crowded.many, crowded.tick)

    def test_papers(self):
        paper = Kept(down=[2], up=1)
        self.assertEqual((paper.up, paper.down, paper.parts, paper.word, bool(paper)), (1, (2,), (1, (2,)), "kept", True))
        paper = Crowd(many="x", tick=None)
        self.assertEqual((paper.tick, paper.many, paper.parts, bool(paper)), (None, "x", (None, "x"), False))

    def test_short_time(self):
        for lot in (GREAT_KEPT, GREAT_CROWDED):
            self.assertLess(seconds_of(judged_factors, lot), 2)
            self.assertLess(seconds_of(due_by, lot, FAR), 2)
            self.assertLess(seconds_of(share_sum, lot), 2)


if __name__ == "__main__":
    unittest.main()

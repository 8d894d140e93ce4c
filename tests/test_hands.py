"""Several hands: what is judged and shown, the plan of dues, and what is late in it."""

import unittest
from fractions import Fraction
from random import Random

from duetickers.factors import Crowd, Kept, judged_factors
from duetickers.hands import hands_plan, judged_hands, late_in, shows_hands
from duetickers.papers import Denial, Paper
from duetickers.puzzles import Same
from tests.lots import told
from tests.told import NO_INTEGERS, NO_LISTS, Odd, error_of, seconds_of

FAR = 10 ** 300
MOST = 10 ** 6
GREAT = [MOST - 7 * place for place in range(40)]
PRIMES = [2, 3, 5, 7, 11, 13, 17, 19, 23, 29, 31, 37, 41, 43, 47, 53, 59, 61, 67, 71, 73, 79, 83, 89, 97, 101, 103, 107, 109,
          113, 127, 131, 137, 139, 149, 151, 157, 163, 167, 173]
# The first factor fills a hand; the others make the sum a little more, and the tick that all divide a far one.
STEEP = [1, 999983, 999979, 999961, 999959, 999953, 999931, 999917, 999907, 999883] + [999863 - 2 * at for at in range(30)]
NO_FACTORS = NO_LISTS + ([], (), [1] * 41, [0], [MOST + 1], [-1], [(1, 1)], [[2, 1]], [1, (2, 1)], ["1"], "1", b"\1", {1},
                         {1: 1}, range(1, 2))
OTHERS = NO_INTEGERS + NO_LISTS + ((2, 1), [2, 1], ("kept", (2, 1)), "kept", Kept, Crowd, Odd(), Same(2), judged_hands)


class KeptBelow(Kept):
    """A class of papers below Kept, which Kept does not make."""


class CrowdBelow(Crowd):
    """A class of papers below Crowd, which Crowd does not make."""


def some_factors():
    """Lists of whole factors of any sums."""
    luck = Random(80)
    rows = [[1], [2], [1, 1], [1, 2, 2], [1, 2, 2, 3], [5, 7], [2, 3, 6], [1] * 8, [1] * 9, [4] * 32, [4] * 33, [40] * 40,
            [5] * 40, [1] * 40, [MOST], [MOST] * 40, [1, MOST]]
    for many in (2, 3, 5, 8, 20, 40):
        for most in (2, 5, 20, 90):
            rows.append([luck.randrange(1, most + 1) for _ in range(many)])
    return rows


def total_of(factors):
    """The sum of the shares, as a fraction of Python."""
    return sum(Fraction(1, factor) for factor in factors)


def due_by(factors, tick):
    """How many steps are due by a tick."""
    return sum(tick // factor for factor in factors)


def slow_plan(factors, hands, ticks):
    """The plan of dues, by one list of all next dues that is searched for the least one again and again."""
    steps = [1] * len(factors)
    plan = []
    for _ in range(ticks):
        left = {place: factor * step for place, (factor, step) in enumerate(zip(factors, steps))}
        made = []
        while left and len(made) < hands:
            place = next(place for place in sorted(left) if left[place] == min(left.values()))
            made.append(place)
            del left[place]
        for place in made:
            steps[place] += 1
        plan.append(tuple(sorted(made)))
    return tuple(plan)


def slow_late(factors, hands, ticks):
    """All pairs that are due by the tick and not made by their due, by looking up each one's tick in the plan."""
    plan = slow_plan(factors, hands, ticks)
    made = [[tick for tick, places in enumerate(plan, start=1) if place in places] for place in range(len(factors))]
    return tuple((place, step) for place, factor in enumerate(factors) for step in range(1, ticks // factor + 1)
                 if len(made[place]) < step or made[place][step - 1] > factor * step)


class TestExamples(unittest.TestCase):
    def test_two_hands(self):
        found = [hands_plan([1, 2, 2], 2, 4), judged_hands([1, 2, 2], 2) == Kept(2, 1), late_in([1, 2, 2], 2, 100)]
        self.assertEqual(found, [((0, 1), (0, 2), (0, 1), (0, 2)), True, ()])

    def test_late_ones(self):
        found = [bool(judged_hands([1, 2, 2, 3], 2)), late_in([1, 2, 2, 3], 2, 6), hands_plan((5, 7), 8, 2)]
        self.assertEqual(found, [False, ((2, 2), (2, 3), (3, 2)), ((0, 1), (0, 1))])

    def test_shown(self):
        found = [shows_hands([1, 2, 2, 3], 2, Crowd(6, 14)), shows_hands([1, 2, 2, 3], 2, Crowd(3, 6)),
                 shows_hands([1, 2, 2], 2, Kept(4, 2))]
        self.assertEqual(found, [True, False, False])
        self.assertEqual(error_of(judged_hands, [1, 0], 2), ("BadFactor", "factors"))


class TestJudged(unittest.TestCase):
    def test_against_the_sum(self):
        kept, crowds = 0, 0
        for factors in some_factors():
            for hands in range(1, 9):
                paper, total = judged_hands(factors, hands), total_of(factors)
                self.assertIs(bool(paper), total <= hands, (factors, hands))
                if total <= hands:
                    kept += 1
                    self.assertEqual(paper, Kept(*told(total)))
                else:
                    crowds += 1
                    self.assertIs(type(paper), Crowd)
                    self.assertTrue(1 <= paper.tick <= FAR)
                    self.assertEqual(paper.many, due_by(factors, paper.tick))
                    self.assertGreater(paper.many, hands * paper.tick)
        self.assertGreater(min(kept, crowds), 60)

    def test_sums_just_at_below_and_above_the_hands(self):
        for hands in range(1, 9):
            just = [1] * (hands - 1) + [2, 3, 6]
            self.assertEqual(judged_hands(just, hands), Kept(hands, 1))
            self.assertEqual(judged_hands([1] * (hands - 1) + [2, 3, 7], hands), Kept(*told(hands - Fraction(1, 42))))
            self.assertEqual(judged_hands([1] * (hands - 1) + [2, 3, 6, MOST], hands).word, "crowd")
            self.assertEqual(judged_hands([1] * hands, hands), Kept(hands, 1))
            self.assertIs(bool(judged_hands([1] * (hands + 1), hands)), False)

    def test_one_hand_is_judged_as_factors_are(self):
        for factors in some_factors():
            self.assertEqual(bool(judged_hands(factors, 1)), bool(judged_factors([(factor, 1) for factor in factors])))

    def test_ticks_far_ahead(self):
        for factors, hands in ((STEEP, 1), (PRIMES, 1), ([1] * 7 + STEEP[:33], 8)):
            paper = judged_hands(factors, hands)
            self.assertIs(bool(paper), False)
            self.assertTrue(1 <= paper.tick <= FAR)
            self.assertEqual(paper.many, due_by(factors, paper.tick))
            self.assertGreater(paper.many, hands * paper.tick)
            self.assertIs(shows_hands(factors, hands, paper), True)
        self.assertTrue(judged_hands(GREAT, 1))


class TestShown(unittest.TestCase):
    def test_what_is_judged_is_right(self):
        for factors in some_factors() + [STEEP, PRIMES, GREAT]:
            for hands in (1, 2, 8):
                self.assertIs(shows_hands(factors, hands, judged_hands(factors, hands)), True)
                self.assertIs(shows_hands(value=judged_hands(factors, hands), hands=hands, factors=tuple(factors)), True)

    def test_crowds_that_no_function_returns(self):
        for factors, hands in (([1, 2, 2, 3], 2), ([1, 1], 1), ([2, 3, 4], 1), ([1] * 9, 8), ([1, 2, 2], 2)):
            for tick in range(-3, 60):
                many = due_by(factors, tick)
                for bent in (many - 1, many, many + 1):
                    right = tick >= 1 and bent == many > hands * tick
                    self.assertIs(shows_hands(factors, hands, Crowd(tick, bent)), right, (factors, tick, bent))

    def test_ticks_at_the_bound_and_one_beyond(self):
        for factors, hands in (([1, 2, 2, 3], 2), (STEEP, 1)):
            for tick in (FAR - 1, FAR):
                self.assertIs(shows_hands(factors, hands, Crowd(tick, due_by(factors, tick))), True)
                self.assertIs(shows_hands(factors, hands, Crowd(tick, due_by(factors, tick) - 1)), False)
            for tick in (FAR + 1, 6 * FAR):
                self.assertIs(shows_hands(factors, hands, Crowd(tick, due_by(factors, tick))), False)

    def test_kept_sums(self):
        for factors in some_factors():
            up, down = told(total_of(factors))
            for hands in (1, 2, 8):
                for one, other in ((up, down), (up + 1, down), (2 * up, 2 * down), (-up, -down), (hands, 1), (0, 1)):
                    right = up <= hands * down and (one, other) == (up, down)
                    self.assertIs(shows_hands(factors, hands, Kept(one, other)), right)

    def test_the_hands_count(self):
        self.assertIs(shows_hands([1, 1], 2, Kept(2, 1)), True)
        self.assertIs(shows_hands([1, 1], 3, Kept(2, 1)), True)
        self.assertIs(shows_hands([1, 1], 1, Kept(2, 1)), False)
        self.assertIs(shows_hands([1, 1], 1, Crowd(5, 10)), True)
        self.assertIs(shows_hands([1, 1], 2, Crowd(5, 10)), False)

    def test_no_numbers_in_the_paper(self):
        for wrong in NO_INTEGERS:
            for paper in (Kept(wrong, 1), Kept(1, wrong), Crowd(wrong, 2), Crowd(1, wrong)):
                self.assertIs(shows_hands([1], 1, paper), False)
                self.assertIs(shows_hands([1, 1], 1, paper), False)
        self.assertIs(shows_hands([1], 1, Kept(1, 1)), True)
        self.assertIs(shows_hands([1, 1], 1, Crowd(1, 2)), True)
        self.assertIs(shows_hands([1, 1], 1, Crowd(True, 2)), False)

    def test_papers_of_other_classes(self):
        for value in (Paper("kept", 2, 1), Denial("kept", 2, 1), Paper("kept"), KeptBelow(2, 1), Crowd(2, 1), Same(2)):
            self.assertIs(shows_hands([1, 1], 2, value), False)
        for value in (Paper("crowd", 1, 2), Denial("crowd", 1, 2), Denial("crowd"), CrowdBelow(1, 2), Kept(1, 2)):
            self.assertIs(shows_hands([1, 1], 1, value), False)

    def test_any_other_values(self):
        for value in OTHERS:
            self.assertIs(shows_hands([1, 1], 2, value), False)
            self.assertIs(shows_hands([1, 1], 1, value), False)


class TestPlan(unittest.TestCase):
    def test_against_a_slow_plan(self):
        for factors in some_factors():
            for hands in (1, 2, 3, 7, 8):
                self.assertEqual(hands_plan(factors, hands, 40), slow_plan(factors, hands, 40), (factors, hands))

    def test_ties_are_made_by_place(self):
        self.assertEqual(hands_plan([2] * 5, 2, 5), ((0, 1), (2, 3), (0, 4), (1, 2), (3, 4)))
        self.assertEqual(hands_plan([6, 3, 2], 1, 6), ((2,), (1,), (2,), (0,), (1,), (2,)))

    def test_fewer_places_than_hands(self):
        for many in range(1, 9):
            for hands in range(many, 9):
                self.assertEqual(hands_plan([many] * many, hands, 3), (tuple(range(many)),) * 3)
        self.assertEqual(hands_plan([5], 1, 2), ((0,), (0,)))

    def test_ticks_at_the_bounds(self):
        self.assertEqual(hands_plan([1, 2, 2], 2, 0), ())
        self.assertEqual(hands_plan(ticks=2000, hands=2, factors=[1, 2, 2]), ((0, 1), (0, 2)) * 1000)
        self.assertEqual(late_in([1, 1], 1, 0), ())
        for wrong in NO_INTEGERS + (-1, 2001, FAR):
            self.assertEqual(error_of(hands_plan, [1], 1, wrong), ("BadNumber", "ticks"))
            self.assertEqual(error_of(late_in, [1], 1, wrong), ("BadNumber", "ticks"))

    def test_plans_of_fewer_ticks_are_beginnings(self):
        whole = hands_plan(PRIMES, 3, 300)
        for ticks in (0, 1, 2, 50, 299):
            self.assertEqual(hands_plan(PRIMES, 3, ticks), whole[:ticks])


class TestLate(unittest.TestCase):
    def test_against_the_slow_plan(self):
        none, some = 0, 0
        for factors in some_factors():
            for hands in (1, 2, 7):
                for ticks in (1, 6, 37):
                    wanted = slow_late(factors, hands, ticks)
                    none, some = none + (not wanted), some + bool(wanted)
                    self.assertEqual(late_in(factors, hands, ticks), wanted, (factors, hands, ticks))
        self.assertGreater(min(none, some), 60)

    def test_none_is_late_if_the_sum_is_at_most_the_hands(self):
        for factors in some_factors() + [PRIMES, GREAT]:
            for hands in range(1, 9):
                if judged_hands(factors, hands):
                    self.assertEqual(late_in(factors, hands, 500), ())

    def test_steps_that_are_not_made_at_all_are_late(self):
        # One hand makes the first place's steps alone till the second one's is due soonest.
        self.assertEqual(late_in([1, 1], 1, 1), ((1, 1),))
        self.assertEqual(late_in([1, 1], 1, 2), ((0, 2), (1, 1), (1, 2)))
        self.assertEqual(late_in([1] * 3, 1, 2), ((0, 2), (1, 1), (1, 2), (2, 1), (2, 2)))

    def test_steps_due_just_at_the_tick_and_one_behind(self):
        self.assertEqual(late_in([3, 3, 3, 3], 1, 3), ((3, 1),))
        self.assertEqual(late_in([3, 3, 3, 3], 1, 2), ())
        self.assertEqual(late_in([3, 3, 3, 3], 1, 4), ((3, 1),))
        self.assertEqual(late_in([3, 3, 3, 3], 1, 5), ((3, 1),))

    def test_just_20000_and_one_more(self):
        # Of 1,667 steps of each of twelve, all but those of the first tick are late.
        found = late_in([1] * 12, 4, 1667)
        self.assertEqual(len(found), 20000)
        self.assertEqual((found[0], found[-1]), ((0, 2), (11, 1667)))
        self.assertEqual(error_of(late_in, [1] * 12, 3, 1667), ("TooMany", "late", 20000))
        self.assertEqual(error_of(late_in, [1] * 12, 4, 1668), ("TooMany", "late", 20000))
        self.assertEqual(error_of(late_in, [1] * 40, 1, 2000), ("TooMany", "late", 20000))
        self.assertEqual(len(late_in([1] * 39, 7, 513)), 20000)


class TestArguments(unittest.TestCase):
    def calls(self, factors, hands):
        """The errors of all functions, with these factors and hands and with what stands behind them."""
        return [error_of(judged_hands, factors, hands), error_of(shows_hands, factors, hands, None),
                error_of(shows_hands, factors, hands, Kept(1, 1)), error_of(hands_plan, factors, hands, None),
                error_of(hands_plan, factors, hands, 5), error_of(late_in, factors, hands, None),
                error_of(late_in, factors, hands, 5)]

    def test_wrong_factors(self):
        for wrong in NO_FACTORS:
            self.assertEqual(set(self.calls(wrong, 1)) | set(self.calls(wrong, None)), {("BadFactor", "factors")})
        for wrong in NO_INTEGERS + (0, -1, MOST + 1, FAR, (1, 1), [1, 1]):
            for factors in ([wrong], [1, wrong], (wrong, 1)):
                self.assertEqual(set(self.calls(factors, 1)), {("BadFactor", "factors")})

    def test_wrong_hands(self):
        for wrong in NO_INTEGERS + (0, -1, 9, FAR):
            self.assertEqual(set(self.calls([1, 2, 2], wrong)), {("BadNumber", "hands")})

    def test_factors_and_hands_at_the_bounds(self):
        for factors in ([1], [MOST], [1] * 40, [MOST] * 40):
            for hands in (1, 8):
                self.assertEqual(set(self.calls(factors, hands)), {None, ("BadNumber", "ticks")})

    def test_lists_and_tuples_alike_and_what_is_passed_stays(self):
        factors = [1, 2, 2, 3]
        for call, given in ((judged_hands, ()), (hands_plan, (9,)), (late_in, (9,)), (shows_hands, (Crowd(6, 14),))):
            self.assertEqual(call(factors, 2, *given), call((1, 2, 2, 3), 2, *given))
            self.assertEqual(factors, [1, 2, 2, 3])
        self.assertEqual(judged_hands(hands=2, factors=[1, 2, 2]), Kept(2, 1))
        self.assertEqual(late_in(ticks=6, hands=2, factors=[1, 2, 2, 3]), ((2, 2), (2, 3), (3, 2)))

    def test_short_time(self):
        for factors in (STEEP, PRIMES, GREAT, [1] * 40):
            for call, given in ((judged_hands, (8,)), (judged_hands, (1,)), (hands_plan, (8, 2000)), (hands_plan, (1, 2000))):
                self.assertLess(seconds_of(call, factors, *given), 1)
            self.assertLess(seconds_of(error_of, late_in, factors, 1, 2000), 1)
            self.assertLess(seconds_of(shows_hands, factors, 1, Crowd(FAR, due_by(factors, FAR))), 1)


if __name__ == "__main__":
    unittest.main()

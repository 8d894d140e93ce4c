"""The order of dues: ticks of steps, steps of ticks, late steps."""

import unittest
from fractions import Fraction
from random import Random

from duetickers.dues import due_of, first_late, order_of, pair_at, steps_by, tick_of
from duetickers.factors import factors_of, share_sum
from tests.lots import (BROKEN, GREAT_CROWDED, GREAT_KEPT, HALF, MOST, ODD, great_lot, just_kept, slow_order, slow_sum,
                        some_lots, told)
from tests.told import NO_INTEGERS, NO_LISTS, error_of, seconds_of

FAR = 10 ** 30
LOTS = some_lots() + [GREAT_KEPT, GREAT_CROWDED]
NO_FACTORS = NO_LISTS + ([], (), [(1, 1)] * 41, [(1, True)], [(0, 1)], [(1, MOST + 1)], [(1, 1, 1)], (1, 1), [[1]])


class TestExamples(unittest.TestCase):
    def test_half(self):
        wanted = ((0, 1), (0, 2), (1, 1), (2, 1), (0, 3), (0, 4), (1, 2), (2, 2))
        self.assertEqual([order_of(HALF, 8), steps_by(HALF, 3), steps_by(HALF, 0)], [wanted, (2, 1, 0), (0, 0, 0)])
        self.assertEqual([pair_at(HALF, FAR), tick_of(HALF, 0, FAR)],
                         [(2, 250000000000000000000000000000), 1999999999999999999999999999998])
        self.assertEqual(error_of(tick_of, HALF, 3, 1), ("BadNumber", "place"))

    def test_broken(self):
        found = [due_of(BROKEN, 0, 3), tick_of(BROKEN, 0, 3), tick_of(BROKEN, 1, 1), order_of(BROKEN, 4),
                 first_late(BROKEN, 5000)]
        self.assertEqual(found, [(9, 2), 4, 3, ((0, 1), (0, 2), (1, 1), (0, 3)), None])

    def test_odd(self):
        found = [first_late(ODD, 100), tick_of(ODD, 2, 2), due_of(ODD, 2, 2), first_late(ODD, 6)]
        self.assertEqual(found, [(2, 2), 7, (6, 1), None])


class TestFirstTicks(unittest.TestCase):
    def test_order_by_one_sorted_list(self):
        for lot in LOTS:
            many = 40 if len(lot) == 40 else 150
            pairs = slow_order(lot, many)
            self.assertEqual(order_of(lot, many), pairs, lot)
            for tick, (place, step) in enumerate(pairs, start=1):
                self.assertEqual(tick_of(lot, place, step), tick)
                self.assertEqual(pair_at(lot, tick), (place, step))

    def test_many_steps_of_great_lots(self):
        luck = Random(30)
        for lot in (GREAT_KEPT, GREAT_CROWDED, great_lot(luck, MOST, MOST), great_lot(luck, 3000, MOST), [(1, 1)] * 40):
            self.assertEqual(order_of(lot, 700), slow_order(lot, 700))

    def test_steps_by(self):
        for lot in LOTS:
            made = [0] * len(lot)
            self.assertEqual(steps_by(lot, 0), tuple(made))
            for tick, (place, step) in enumerate(order_of(lot, 100), start=1):
                made[place] += 1
                self.assertEqual(made[place], step)
                self.assertEqual(steps_by(lot, tick), tuple(made))

    def test_steps_due_alike_at_several_places(self):
        self.assertEqual(order_of([(6, 1), (3, 1), (2, 1), (6, 1)], 12),
                         ((2, 1), (1, 1), (2, 2), (0, 1), (1, 2), (2, 3), (3, 1), (2, 4), (1, 3), (2, 5), (0, 2), (1, 4)))
        self.assertEqual(order_of([(2, 1)] * 3, 6), ((0, 1), (1, 1), (2, 1), (0, 2), (1, 2), (2, 2)))
        self.assertEqual([tick_of([(2, 1)] * 3, place, FAR) for place in range(3)], [3 * FAR - 2, 3 * FAR - 1, 3 * FAR])
        self.assertEqual(order_of([(4, 2), (2, 1), (8, 4)], 3), ((0, 1), (1, 1), (2, 1)))

    def test_order_of_many(self):
        self.assertEqual(order_of(HALF, 0), ())
        self.assertEqual(len(order_of(many=5000, factors=HALF)), 5000)
        self.assertEqual(order_of(HALF, 5000)[-1], pair_at(HALF, 5000))
        self.assertEqual(order_of(HALF, 5000)[:4999], order_of(HALF, 4999))
        for wrong in NO_INTEGERS + (-1, 5001, FAR):
            self.assertEqual(error_of(order_of, HALF, wrong), ("BadNumber", "many"))


class TestFarTicks(unittest.TestCase):
    def test_what_is_told_agrees(self):
        luck = Random(31)
        for lot in LOTS:
            for tick in (1, 999, 10 ** 6, 10 ** 18 + 7, FAR - 1, FAR):
                place, step = pair_at(lot, tick)
                self.assertEqual(tick_of(lot, place, step), tick)
                made, ahead = steps_by(lot, tick), steps_by(lot, tick - 1)
                self.assertEqual((sum(made), sum(ahead)), (tick, tick - 1))
                self.assertEqual(made, ahead[:place] + (ahead[place] + 1,) + ahead[place + 1:])
                self.assertEqual(made[place], step)
                for other in range(len(lot)):
                    self.assertTrue(made[other] == 0 or tick_of(lot, other, made[other]) <= tick)
                    self.assertTrue(made[other] >= FAR or tick_of(lot, other, made[other] + 1) > tick)
            place, step = luck.randrange(len(lot)), luck.randrange(1, FAR + 1)
            tick = tick_of(lot, place, step)
            if tick <= FAR:
                self.assertEqual(pair_at(lot, tick), (place, step))

    def test_rounds_come_again(self):
        for lot in ([(2, 1), (3, 1), (7, 2)], [(3, 2), (4, 3)], [(5, 1), (2, 1), (2, 1)], GREAT_KEPT[:1]):
            total = slow_sum(lot)
            around = 1
            for up, down in lot:
                around *= up
            for place, (up, down) in enumerate(lot):
                more = around * down // up
                for step in (1, 2, 17):
                    for laps in (1, 10 ** 9):
                        self.assertEqual(tick_of(lot, place, step + laps * more),
                                         tick_of(lot, place, step) + laps * around * total)

    def test_the_greatest_factors_and_the_least(self):
        lot = [(MOST, 1), (1, MOST)]
        self.assertEqual(tick_of(lot, 0, 1), 10 ** 12)
        self.assertEqual(tick_of(lot, 1, 10 ** 12), 10 ** 12 + 1)
        self.assertEqual(tick_of(lot, 0, FAR), FAR * 10 ** 12 + FAR - 1)
        self.assertEqual(tick_of([(7, 3)], 0, FAR), FAR)
        self.assertEqual(pair_at([(7, 3)], FAR), (0, FAR))
        self.assertEqual(steps_by([(7, 3)], FAR), (FAR,))


class TestDues(unittest.TestCase):
    def test_dues_by_fractions(self):
        for lot in LOTS:
            for place, (up, down) in enumerate(lot):
                for step in (1, 2, 6, 999983, FAR):
                    self.assertEqual(due_of(lot, place, step), told(Fraction(up, down) * step))
        self.assertEqual(due_of(step=2, place=0, factors=[(6, 4)]), (3, 1))


class TestLate(unittest.TestCase):
    def slow_late(self, lot, most):
        """The first late pair of a list of all that come."""
        for tick, (place, step) in enumerate(slow_order(lot, most), start=1):
            if tick > Fraction(*lot[place]) * step:
                return (place, step)
        return None

    def test_against_a_list(self):
        for lot in LOTS:
            for most in (1, 2, 40, 200):
                self.assertEqual(first_late(lot, most), self.slow_late(lot, most))
        self.assertIsNone(first_late(GREAT_CROWDED, 1))

    def test_lots_that_are_kept(self):
        luck = Random(33)
        for lot in (HALF, BROKEN, GREAT_KEPT, [(1, 1)], factors_of([1, 2, 3, 4, 4]), *(just_kept(luck, 9) for _ in range(9))):
            up, down = share_sum(lot)
            self.assertLessEqual(up, down)
            self.assertIsNone(first_late(lot, 5000))

    def test_most_just_at_the_first_late_tick_and_one_below(self):
        for lot in (ODD, [(1, 2)], [(1, 1), (5, 1)], [(2, 1), (3, 1), (5, 1)], [(1, 1), (1000, 1)]):
            place, step = first_late(lot, 5000)
            tick = tick_of(lot, place, step)
            self.assertEqual(first_late(lot, tick), (place, step))
            self.assertIsNone(first_late(lot, tick - 1) if tick > 1 else None)
        self.assertEqual(first_late([(1, 2)], 1), (0, 1))
        self.assertEqual(first_late([(1, 1)] * 2, 2), (1, 1))
        self.assertIsNone(first_late([(1, 1)] * 2, 1))

    def test_first_late_at_the_last_tick(self):
        lot = [(1, 1), (4999, 1)]
        self.assertEqual(tick_of(lot, 1, 1), 5000)
        self.assertEqual(first_late(lot, 5000), (1, 1))
        self.assertIsNone(first_late(lot, 4999))
        self.assertIsNone(first_late([(1, 1), (5000, 1)], 5000))

    def test_wrong_most(self):
        for wrong in NO_INTEGERS + (0, -1, 5001, FAR):
            self.assertEqual(error_of(first_late, HALF, wrong), ("BadNumber", "most"))
        self.assertIsNone(first_late(most=1, factors=HALF))


class TestArguments(unittest.TestCase):
    def test_wrong_factors(self):
        for wrong in NO_FACTORS:
            for call in (due_of, tick_of):
                self.assertEqual(error_of(call, wrong, None, None), ("BadFactor", "factors"))
                self.assertEqual(error_of(call, wrong, 0, 1), ("BadFactor", "factors"))
            for call in (pair_at, steps_by, order_of, first_late):
                self.assertEqual(error_of(call, wrong, None), ("BadFactor", "factors"))
                self.assertEqual(error_of(call, wrong, 1), ("BadFactor", "factors"))

    def test_wrong_places(self):
        for call in (due_of, tick_of):
            for lot in (HALF, [(1, 1)], [(1, 1)] * 40):
                for wrong in NO_INTEGERS + (-1, len(lot), 40, FAR, -FAR):
                    self.assertEqual(error_of(call, lot, wrong, 1), ("BadNumber", "place"))
                    self.assertEqual(error_of(call, lot, wrong, 0), ("BadNumber", "place"))
                self.assertIsNone(error_of(call, lot, len(lot) - 1, 1))

    def test_wrong_steps_and_ticks(self):
        for wrong in NO_INTEGERS + (-1, FAR + 1, -FAR):
            for call in (due_of, tick_of):
                self.assertEqual(error_of(call, HALF, 0, wrong), ("BadNumber", "step"))
            for call in (pair_at, steps_by):
                self.assertEqual(error_of(call, HALF, wrong), ("BadNumber", "tick"))
        self.assertEqual(error_of(due_of, HALF, 0, 0), ("BadNumber", "step"))
        self.assertEqual(error_of(tick_of, HALF, 0, 0), ("BadNumber", "step"))
        self.assertEqual(error_of(pair_at, HALF, 0), ("BadNumber", "tick"))

    def test_by_name_and_lists_for_tuples(self):
        lot = tuple(list(pair) for pair in ODD)
        self.assertEqual(tick_of(step=2, factors=lot, place=2), 7)
        self.assertEqual(pair_at(tick=7, factors=lot), (2, 2))
        self.assertEqual(steps_by(tick=7, factors=lot), (3, 2, 2))
        self.assertEqual(order_of(lot, 7), order_of(ODD, 7))
        self.assertEqual(first_late(lot, 7), (2, 2))
        self.assertEqual(due_of(lot, 2, 2), (6, 1))

    def test_what_is_passed_stays(self):
        lot = [[6, 4], (3, 1)]
        for call, given in ((due_of, (0, 3)), (tick_of, (0, 3)), (pair_at, (5,)), (steps_by, (5,)), (order_of, (5,)),
                            (first_late, (5,))):
            call(lot, *given)
            self.assertEqual(lot, [[6, 4], (3, 1)])

    def test_short_time(self):
        luck = Random(35)
        for lot in (GREAT_KEPT, GREAT_CROWDED, [(1, MOST)] * 40, great_lot(luck, MOST, MOST)):
            for call, given in ((pair_at, (FAR,)), (steps_by, (FAR,)), (tick_of, (20, FAR)), (order_of, (5000,)),
                                (first_late, (5000,))):
                self.assertLess(seconds_of(call, lot, *given), 2)


if __name__ == "__main__":
    unittest.main()

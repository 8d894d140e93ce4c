"""Laps of doubling: their rows, the ticks of steps, and the factors that they keep."""

import unittest
from fractions import Fraction
from itertools import product
from random import Random

from duetickers.laps import lap_factors, lap_row, lap_tick
from tests.lots import told
from tests.told import NO_INTEGERS, NO_LISTS, error_of, seconds_of

FAR = 10 ** 9
NO_LENGTHS = NO_LISTS + ([], (), [1] * 41, [0], [31], [-1], [1, 31], [10 ** 30], [[1]], ["1"], "1", b"\1", {1}, {1: 1},
                         range(1, 2))


def some_lengths():
    """All short lists of small lengths, and longer ones that are drawn."""
    luck = Random(70)
    rows = [row for many in (1, 2, 3) for row in product(range(1, 5), repeat=many)]
    rows += [[luck.randrange(1, 9) for _ in range(many)] for many in (4, 7, 20, 40)]
    return rows + [[1] * 40, [30] * 40, [30, 1], [1, 30]]


def slow_laps(lengths, laps):
    """The rows of so many laps, one behind another."""
    return [[place for place, length in enumerate(lengths) if length <= lap for _ in range(2 ** (lap - length))]
            for lap in range(laps)]


class TestExamples(unittest.TestCase):
    def test_rows(self):
        self.assertEqual([lap_row([1, 2, 2], lap) for lap in (0, 1, 2, 3)],
                         [(), (0,), (0, 0, 1, 2), (0, 0, 0, 0, 1, 1, 2, 2)])
        self.assertEqual(error_of(lap_row, [1] * 40, 7), ("TooMany", "row", 2000))

    def test_ticks(self):
        found = [lap_tick([1, 2, 2], 0, 2), lap_tick([1, 2, 2], 1, 1), lap_tick([1, 2, 2], 2, 1), lap_tick([1, 2, 2], 1, 2),
                 lap_tick([1, 2, 2], 0, 10 ** 9)]
        self.assertEqual(found, [2, 4, 5, 10, 1536870910])
        self.assertEqual(error_of(lap_tick, [1, 2], 2, 1), ("BadNumber", "place"))

    def test_factors(self):
        self.assertEqual([lap_factors([1, 2, 2]), lap_factors([3]), lap_factors([1, 1])],
                         [((2, 1), (6, 1), (7, 1)), ((1, 1),), ((2, 1), (3, 1))])


class TestRows(unittest.TestCase):
    def test_against_a_list(self):
        for lengths in some_lengths():
            for lap, row in enumerate(slow_laps(lengths, 11)):
                if len(row) > 2000:
                    self.assertEqual(error_of(lap_row, lengths, lap), ("TooMany", "row", 2000))
                else:
                    self.assertEqual(lap_row(lengths, lap), tuple(row), (lengths, lap))

    def test_laps_at_the_bounds(self):
        self.assertEqual(lap_row(lap=10, lengths=[1]), (0,) * 512)
        self.assertEqual(lap_row([30], 10), ())
        self.assertEqual(lap_row([10], 10), (0,))
        for wrong in NO_INTEGERS + (-1, 11, 10 ** 30):
            self.assertEqual(error_of(lap_row, [1], wrong), ("BadNumber", "lap"))

    def test_rows_of_just_2000_and_more(self):
        just = [1, 1, 1, 2, 3, 4, 6]
        self.assertEqual(len(lap_row(just, 10)), 2000)
        self.assertEqual(lap_row(just, 10)[-16:], (6,) * 16)
        self.assertEqual(error_of(lap_row, just + [10], 10), ("TooMany", "row", 2000))
        self.assertEqual(len(lap_row(just + [11], 10)), 2000)
        self.assertEqual(error_of(lap_row, [1] * 40, 10), ("TooMany", "row", 2000))
        self.assertEqual(len(lap_row([1] * 40, 6)), 1280)


class TestTicks(unittest.TestCase):
    def test_against_all_laps_behind_one_another(self):
        for lengths in some_lengths():
            if max(lengths) > 8:
                continue
            made = [0] * len(lengths)
            row = [place for lap in slow_laps(lengths, 10) for place in lap]
            for tick, place in enumerate(row, start=1):
                made[place] += 1
                if made[place] <= 40 or tick % 97 == 0:
                    self.assertEqual(lap_tick(lengths, place, made[place]), tick, (lengths, place))

    def counted_tick(self, lengths, place, step):
        """The tick of a step, by going from lap to lap and counting whole laps."""
        ticks, made, lap = 0, 0, 0
        while True:
            sizes = [2 ** (lap - length) if length <= lap else 0 for length in lengths]
            if made + sizes[place] >= step:
                return ticks + sum(sizes[:place]) + step - made
            ticks, made, lap = ticks + sum(sizes), made + sizes[place], lap + 1

    def test_far_ones_by_counting(self):
        luck = Random(71)
        for lengths in some_lengths():
            for step in (1, 2, 3, 2 ** 29 - 1, 2 ** 29, 2 ** 29 + 1, FAR - 1, FAR, luck.randrange(1, FAR)):
                for place in {0, len(lengths) - 1, luck.randrange(len(lengths))}:
                    self.assertEqual(lap_tick(lengths, place, step), self.counted_tick(lengths, place, step))

    def test_places_and_steps_at_the_bounds(self):
        for lengths in ([3], [1, 2], [5] * 40):
            for place in NO_INTEGERS + (-1, len(lengths), 40, 10 ** 30, -10 ** 30):
                self.assertEqual(error_of(lap_tick, lengths, place, 1), ("BadNumber", "place"))
            for step in NO_INTEGERS + (0, -1, FAR + 1, 10 ** 30):
                self.assertEqual(error_of(lap_tick, lengths, len(lengths) - 1, step), ("BadNumber", "step"))
            self.assertIsNone(error_of(lap_tick, lengths, len(lengths) - 1, FAR))
        self.assertEqual(lap_tick(step=FAR, place=0, lengths=[17]), FAR)


class TestFactors(unittest.TestCase):
    def test_by_fractions(self):
        for lengths in some_lengths():
            shares = [Fraction(1, 2 ** length) for length in lengths]
            wanted = [(sum(shares) + sum(shares[:place])) / share for place, share in enumerate(shares)]
            self.assertEqual(lap_factors(lengths), tuple(told(factor) for factor in wanted))

    def test_against_the_greatest_seen_and_the_limit(self):
        # The first steps of later and later laps come ever nearer to the factor, none comes above it.
        for lengths in some_lengths():
            for place in {0, len(lengths) // 2, len(lengths) - 1}:
                factor = Fraction(*lap_factors(lengths)[place])
                seen = [Fraction(lap_tick(lengths, place, step), step)
                        for step in [*range(1, 65), *(2 ** k + more for k in range(7, 30) for more in (-1, 0, 1))]]
                self.assertLessEqual(max(seen), factor)
                self.assertLessEqual(factor - Fraction(lap_tick(lengths, place, 2 ** 29), 2 ** 29), Fraction(40, 2 ** 29))

    def test_sums_of_at_most_1_come_by_less_than_twice_the_due(self):
        for lengths in some_lengths():
            if sum(Fraction(1, 2 ** length) for length in lengths) <= 1:
                for place, factor in enumerate(lap_factors(lengths)):
                    self.assertLess(Fraction(*factor), 2 * 2 ** lengths[place])

    def test_wrong_lengths(self):
        for wrong in NO_LENGTHS:
            self.assertEqual(error_of(lap_factors, wrong), ("BadNumber", "lengths"))
            self.assertEqual(error_of(lap_row, wrong, None), ("BadNumber", "lengths"))
            self.assertEqual(error_of(lap_tick, wrong, None, None), ("BadNumber", "lengths"))
        for wrong in NO_INTEGERS + (0, 31, -1, 10 ** 30):
            for lengths in ([wrong], [1, wrong], [wrong, 1], (1, wrong)):
                self.assertEqual(error_of(lap_factors, lengths), ("BadNumber", "lengths"))
                self.assertEqual(error_of(lap_row, lengths, 0), ("BadNumber", "lengths"))
                self.assertEqual(error_of(lap_tick, lengths, 0, 1), ("BadNumber", "lengths"))

    def test_lengths_at_the_bounds(self):
        for lengths in ([1], [30], [1] * 40, [30] * 40):
            for call, given in ((lap_factors, ()), (lap_row, (1,)), (lap_tick, (0, 1))):
                self.assertIsNone(error_of(call, lengths, *given))
        self.assertEqual(lap_factors([30, 1]), ((2 ** 29 + 1, 1), (2 ** 28 + 1, 2 ** 28)))

    def test_the_first_wrong_one_is_told(self):
        given = [[1, 2], 0, 1]
        for at, wanted in ((2, ("BadNumber", "step")), (1, ("BadNumber", "place")), (0, ("BadNumber", "lengths"))):
            given[at] = None
            self.assertEqual(error_of(lap_tick, *given), wanted)
        self.assertEqual(error_of(lap_row, [1] * 40, 11), ("BadNumber", "lap"))

    def test_lists_and_tuples_alike_and_what_is_passed_stays(self):
        lengths = [1, 2, 2]
        self.assertEqual(lap_factors(lengths=(1, 2, 2)), lap_factors(lengths))
        self.assertEqual(lap_row((1, 2, 2), 3), lap_row(lengths, 3))
        self.assertEqual(lap_tick((1, 2, 2), 1, 2), lap_tick(lengths, 1, 2))
        self.assertEqual(lengths, [1, 2, 2])

    def test_short_time(self):
        for lengths in ([30] * 40, [1] * 40, [1, 1, 1, 2, 3, 4, 6]):
            for call, given in ((lap_factors, ()), (lap_tick, (len(lengths) - 1, FAR))):
                self.assertLess(seconds_of(call, lengths, *given), 1)
        self.assertLess(seconds_of(lap_row, [1, 1, 1, 2, 3, 4, 6], 10), 1)
        self.assertLess(seconds_of(error_of, lap_row, [1] * 40, 10), 1)


if __name__ == "__main__":
    unittest.main()

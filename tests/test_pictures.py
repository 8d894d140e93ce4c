"""Pictures: at which ticks steps are made, and when they are due."""

import unittest
from fractions import Fraction
from random import Random

from duetickers.dues import due_of, order_of
from duetickers.pictures import ticks_picture
from tests.lots import BROKEN, GREAT_CROWDED, GREAT_KEPT, HALF, MOST, ODD, just_kept, slow_order, some_lots
from tests.told import NO_INTEGERS, NO_LISTS, error_of, seconds_of


def slow_picture(lot, many):
    """The picture, by the slow order of dues and by the dues of each place, one by one where they are not too many."""
    made = slow_order(lot, many)
    rows = []
    for place, (up, down) in enumerate(lot):
        factor = Fraction(up, down)
        if down // up < 50:
            dues = {factor * step for step in range(1, many * down // up + 1)}
        else:
            dues = {tick for tick in range(1, many + 1) if (tick / factor).denominator == 1}
        signs = {(True, True): "+", (True, False): "#", (False, True): "-", (False, False): "."}
        rows.append("".join(signs[made[tick - 1][0] == place, tick in dues] for tick in range(1, many + 1)))
    return tuple(rows)


class TestExamples(unittest.TestCase):
    def test_pictures(self):
        self.assertEqual(ticks_picture([[2, 1], [4, 1], [4, 1]], 8), ("#+.-#+.-", "..#-..#-", "...+...+"))
        self.assertEqual(ticks_picture([[3, 2]], 4), ("##+#",))


class TestPictures(unittest.TestCase):
    def test_against_the_order_and_the_dues(self):
        luck = Random(130)
        for lot in some_lots() + [just_kept(luck, 12), just_kept(luck, 40)]:
            many = luck.choice((1, 17, 40))
            self.assertEqual(ticks_picture(lot, many), slow_picture(lot, many), lot)

    def test_against_the_package_itself(self):
        for lot in (HALF, ODD, BROKEN, [(5, 2), (7, 3), (9, 4)]):
            picture = ticks_picture(lot, 200)
            for tick, (place, step) in enumerate(order_of(lot, 200), start=1):
                for other, row in enumerate(picture):
                    self.assertEqual(row[tick - 1] in "#+", other == place)
            for place, row in enumerate(picture):
                dues = [due_of(lot, place, step) for step in range(1, 400)]
                self.assertEqual([tick for tick in range(1, 201) if (tick, 1) in dues],
                                 [tick for tick, sign in enumerate(row, start=1) if sign in "-+"])

    def test_great_lots(self):
        for lot in (GREAT_KEPT, GREAT_CROWDED, [(MOST, 1)] * 40, [(1, MOST)] * 40, [(MOST, MOST)] * 40):
            self.assertEqual(ticks_picture(lot, 60), slow_picture(lot, 60))

    def test_all_signs_at_each_tick(self):
        for lot in (HALF, ODD, GREAT_CROWDED, [(1, 1)]):
            for many in (0, 1, 199, 200):
                picture = ticks_picture(lot, many)
                self.assertIs(type(picture), tuple)
                self.assertEqual([len(row) for row in picture], [many] * len(lot))
                self.assertTrue(all(sign in ".-+#" for row in picture for sign in row))
                for tick in range(many):
                    self.assertEqual(len([row for row in picture if row[tick] in "#+"]), 1)

    def test_whole_and_broken_factors(self):
        self.assertEqual(ticks_picture([(1, 1)], 5), ("+++++",))
        self.assertEqual(ticks_picture([(2, 1)], 5), ("#+#+#",))
        self.assertEqual(ticks_picture([(1, 3)], 5), ("+++++",))
        self.assertEqual(ticks_picture([(7, 2)], 8), ("######+#",))
        self.assertEqual(ticks_picture([(1, 2), (4, 1)], 9), ("++++++++-", "...-...-#"))

    def test_pairs_that_are_not_reduced(self):
        for lot, other in (([(12, 8), (6, 2)], [(3, 2), (3, 1)]), ([(MOST, MOST)], [(1, 1)]), ([(500, 250)] * 2, [(2, 1)] * 2)):
            self.assertEqual(ticks_picture(lot, 50), ticks_picture(other, 50))

    def test_pictures_of_fewer_ticks_are_beginnings(self):
        for lot in (HALF, ODD, BROKEN, GREAT_KEPT, GREAT_CROWDED):
            whole = ticks_picture(lot, 200)
            for many in (0, 1, 2, 33, 199):
                self.assertEqual(ticks_picture(lot, many), tuple(row[:many] for row in whole))


class TestArguments(unittest.TestCase):
    def test_bounds(self):
        self.assertEqual(ticks_picture(HALF, 0), ("", "", ""))
        self.assertEqual(len(ticks_picture(many=200, factors=[(2, 1)] * 40)), 40)
        for wrong in NO_INTEGERS + (-1, 201, 10 ** 30):
            self.assertEqual(error_of(ticks_picture, HALF, wrong), ("BadNumber", "many"))
        for wrong in NO_LISTS + ([], (), [(1, 1)] * 41, [(1, True)], [(0, 1)], [(1, MOST + 1)], [(1, 1, 1)], (1, 1), [1]):
            self.assertEqual(error_of(ticks_picture, wrong, 5), ("BadFactor", "factors"))
            self.assertEqual(error_of(ticks_picture, wrong, None), ("BadFactor", "factors"))

    def test_lists_and_tuples_alike_and_what_is_passed_stays(self):
        lot = [[6, 4], [3, 1]]
        for other in (lot, tuple(lot), [(6, 4), [3, 1]], ((6, 4), (3, 1))):
            self.assertEqual(ticks_picture(other, 9), ticks_picture(BROKEN, 9))
        self.assertEqual(lot, [[6, 4], [3, 1]])

    def test_short_time(self):
        for lot in (GREAT_KEPT, GREAT_CROWDED, [(1, MOST)] * 40):
            self.assertLess(seconds_of(ticks_picture, lot, 200), 1)


if __name__ == "__main__":
    unittest.main()

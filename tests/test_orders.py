"""Orders: their rows, the least factors kept, ticks near and far, and the round order."""

import unittest
from fractions import Fraction
from itertools import product
from math import gcd, lcm
from random import Random

from duetickers.dues import order_of
from duetickers.factors import share_sum
from duetickers.orders import Order, kept_by, round_of, tick_at
from tests.lots import GREAT_CROWDED, GREAT_KEPT, HALF, MOST, ODD, just_kept, slow_due, some_lots, told
from tests.told import NO_INTEGERS, NO_LISTS, Odd, error_of, seconds_of

FAR = 10 ** 30
NO_ROWS = NO_LISTS + ([], (), [0] * 2001, [1], [1, 1], [0, 2], [2, 0], [0, 1, 3], [0, -1], [-1], [-1, 1], (1, -1),
                      [2, 0, -1], [0, 0, 10 ** 30], [[0]], [(0,)], ["0"], "0", b"\0", {0}, {0: 0}, range(1))
NO_ORDERS = (None, True, 0, "0 1", [0, 1], (0, 1), {"row": (0,)}, object(), Odd(), Order)


def some_rows():
    """All short rows, and longer ones that are drawn."""
    luck = Random(60)
    rows = [row for many in range(1, 6) for row in product(range(3), repeat=many) if len(set(row)) == max(row) + 1]
    for many in (7, 30, 200):
        for places in (1, 2, 5, 7):
            row = list(range(places)) + [luck.randrange(places) for _ in range(many - places)]
            luck.shuffle(row)
            rows.append(tuple(row))
    return rows


def slow_ticks(row, place, rounds):
    """The ticks of a place in so many rounds of the row."""
    return [tick for tick, own in enumerate(list(row) * rounds, start=1) if own == place]


class TestExamples(unittest.TestCase):
    def test_kept(self):
        found = [kept_by(Order(row)) for row in ([0, 1, 0, 2], [1, 0, 0], [1, 1, 0])]
        self.assertEqual(found, [((2, 1), (4, 1), (4, 1)), ((2, 1), (3, 1)), ((3, 1), (3, 2))])

    def test_ticks(self):
        found = [tick_at(Order([0, 1, 0, 2]), 0, 3), tick_at(Order([0, 1, 0, 2]), 2, 10 ** 30), tick_at(Order((0,)), 0, 7)]
        self.assertEqual(found, [5, 4000000000000000000000000000000, 7])

    def test_rounds(self):
        found = [round_of([(2, 1), (4, 1), (4, 1)]).row, round_of([(3, 2), (3, 1)]).row, round_of([[6, 4]]).row,
                 kept_by(round_of([(3, 2), (3, 1)]))]
        self.assertEqual(found, [(0, 0, 1, 2), (0, 0, 1), (0, 0), ((3, 2), (3, 1))])

    def test_errors(self):
        self.assertEqual(error_of(Order, [0, 2]), ("BadOrder", "row"))
        self.assertEqual(error_of(round_of, [(1999, 1), (2003, 1)]), ("TooMany", "row", 2000))


class TestOrder(unittest.TestCase):
    def test_rows_at_the_bounds(self):
        for row in ([0], [0] * 2000, list(range(2000)), list(range(1999, -1, -1)), [1, 0], [0, 0, 1]):
            self.assertEqual(Order(row).row, tuple(row))
            self.assertEqual(Order(row=tuple(row)).row, tuple(row))
        for row in ([0] * 2001, list(range(2001)), [0] * 100000):
            self.assertEqual(error_of(Order, row), ("BadOrder", "row"))

    def test_wrong_rows(self):
        for wrong in NO_ROWS:
            self.assertEqual(error_of(Order, wrong), ("BadOrder", "row"))
        for wrong in NO_INTEGERS + (-1, 3, FAR, -FAR):
            for row in ([wrong], [0, wrong], [wrong, 0], (0, 1, wrong)):
                self.assertEqual(error_of(Order, row), ("BadOrder", "row"))

    def test_each_integer_left_out(self):
        for many in (2, 5, 50):
            for out in range(many - 1):
                self.assertEqual(error_of(Order, [at for at in range(many) if at != out]), ("BadOrder", "row"))
            self.assertIsNone(error_of(Order, list(range(many - 1))))

    def test_the_row_is_the_orders_own(self):
        row = [0, 1]
        order = Order(row)
        row[0] = 5
        row.append(7)
        self.assertEqual(order.row, (0, 1))
        self.assertIs(type(order.row), tuple)
        self.assertEqual(kept_by(order), ((2, 1), (2, 1)))

    def test_equal(self):
        rows = some_rows()[:60]
        for one in rows:
            for other in rows:
                self.assertIs(Order(one) == Order(list(other)), one == other)
                self.assertIs(Order(one) != Order(other), one != other)
        for other in (None, (0, 1), [0, 1], 5, object()):
            self.assertIs(Order([0, 1]) == other, False)
        self.assertIs(Order([0]).__eq__(Odd()), False)

    def test_methods_stand_in_the_class(self):
        for method in ("__init__", "__eq__"):
            self.assertIn(method, vars(Order))


class TestKept(unittest.TestCase):
    def test_against_many_rounds(self):
        for row in some_rows():
            kept = kept_by(Order(row))
            self.assertEqual(len(kept), max(row) + 1)
            for place, factor in enumerate(kept):
                ticks = slow_ticks(row, place, 40)
                seen = max(Fraction(tick, step) for step, tick in enumerate(ticks, start=1))
                limit = Fraction(len(row), row.count(place))
                self.assertEqual(factor, told(max(seen, limit)), (row, place))

    def test_reduced_and_of_shares_that_sum_to_at_most_1(self):
        for row in some_rows():
            kept = kept_by(Order(row))
            self.assertTrue(all(gcd(up, down) == 1 and down > 0 for up, down in kept))
            self.assertLessEqual(sum(Fraction(down, up) for up, down in kept), 1)

    def test_great_rows(self):
        self.assertEqual(kept_by(Order(list(range(2000)))), ((2000, 1),) * 2000)
        self.assertEqual(kept_by(Order([0] * 2000)), ((1, 1),))
        self.assertEqual(kept_by(Order([0] * 1999 + [1])), ((2000, 1999), (2000, 1)))
        self.assertEqual(kept_by(Order([1] * 1000 + [0] * 1000)), ((1001, 1), (2, 1)))
        self.assertEqual(kept_by(order=Order([1, 1, 1, 0, 0])), ((4, 1), (5, 3)))

    def test_wrong_orders(self):
        for wrong in NO_ORDERS:
            self.assertEqual(error_of(kept_by, wrong), ("BadOrder", "order"))
            self.assertEqual(error_of(tick_at, wrong, 0, 1), ("BadOrder", "order"))


class TestTicks(unittest.TestCase):
    def test_near_ones_by_making_the_row_again_and_again(self):
        for row in some_rows():
            for place in range(max(row) + 1):
                ticks = slow_ticks(row, place, 5)
                self.assertEqual([tick_at(Order(row), place, step) for step in range(1, len(ticks) + 1)], ticks)

    def test_far_ones(self):
        luck = Random(61)
        for row in some_rows():
            order, place = Order(row), luck.randrange(max(row) + 1)
            many = row.count(place)
            for rounds in (1, 10 ** 9, FAR // many - 1):
                for step in range(1, many + 1):
                    self.assertEqual(tick_at(order, place, step + rounds * many),
                                     slow_ticks(row, place, 1)[step - 1] + rounds * len(row))

    def test_places_and_steps_at_the_bounds(self):
        order = Order([2, 0, 1, 0])
        for place in range(3):
            self.assertIsNone(error_of(tick_at, order, place, FAR))
            self.assertIsNone(error_of(tick_at, order, place, 1))
            for step in NO_INTEGERS + (0, -1, FAR + 1, -FAR):
                self.assertEqual(error_of(tick_at, order, place, step), ("BadNumber", "step"))
        for place in NO_INTEGERS + (-1, 3, 4, FAR, -FAR):
            self.assertEqual(error_of(tick_at, order, place, 1), ("BadNumber", "place"))
        self.assertEqual(tick_at(step=FAR, place=1, order=order), 4 * FAR - 1)

    def test_the_first_wrong_one_is_told(self):
        given = [Order([0, 1]), 0, 1]
        for at, wanted in ((2, ("BadNumber", "step")), (1, ("BadNumber", "place")), (0, ("BadOrder", "order"))):
            given[at] = None
            self.assertEqual(error_of(tick_at, *given), wanted)
        self.assertEqual(error_of(tick_at, Order([0]), 1, 0), ("BadNumber", "place"))


class TestRounds(unittest.TestCase):
    def slow_round(self, lot):
        """The row, by all pairs due by the common multiple, in the order of dues."""
        around = lcm(*(Fraction(up, down).numerator for up, down in lot))
        many = slow_due(lot, around)
        dues = sorted((Fraction(*lot[place]) * step, place) for place in range(len(lot))
                      for step in range(1, many[place] + 1))
        return tuple(place for due, place in dues)

    def size_of(self, lot):
        """How many places the row has."""
        return sum(slow_due(lot, lcm(*(Fraction(up, down).numerator for up, down in lot))))

    def test_against_a_sorted_list_of_all_that_is_due(self):
        luck, few, many = Random(62), 0, 0
        lots = some_lots() + [just_kept(luck, 12) for _ in range(5)]
        for lot in lots:
            if self.size_of(lot) > 2000:
                many += 1
                self.assertEqual(error_of(round_of, lot), ("TooMany", "row", 2000), lot)
            else:
                few += 1
                self.assertEqual(round_of(lot).row, self.slow_round(lot), lot)
                self.assertEqual(round_of(lot).row, tuple(place for place, step in order_of(lot, self.size_of(lot))))
                self.assertIs(type(round_of(lot)), Order)
        self.assertGreater(min(few, many), 15)

    def test_kept_lots_are_kept_by_their_rounds(self):
        luck, kept, just = Random(63), 0, 0
        for lot in some_lots() + [just_kept(luck, 6) for _ in range(9)]:
            up, down = share_sum(lot)
            if up <= down and self.size_of(lot) <= 2000:
                kept, just = kept + 1, just + (up == down)
                found = kept_by(round_of(lot))
                self.assertTrue(all(Fraction(*one) <= Fraction(*other) for one, other in zip(found, lot)), lot)
                if up == down:
                    self.assertEqual([Fraction(*one) for one in found], [Fraction(*other) for other in lot])
        self.assertGreater(min(kept, just), 9)

    def test_sums_above_1(self):
        self.assertEqual(round_of(ODD).row, (0, 1, 2, 0, 0, 1, 2))
        self.assertEqual(round_of([(1, 2), (1, 1)]).row, (0, 0, 1))
        self.assertEqual(round_of([(1, 1)] * 40).row, tuple(range(40)))

    def test_pairs_that_are_not_reduced(self):
        for lot, other in (([(12, 8), (6, 2)], [(3, 2), (3, 1)]), ([(MOST, MOST)], [(1, 1)]), ([(500, 250)] * 2, [(2, 1)] * 2),
                           ([(MOST, 500000), (MOST, 250000)], [(2, 1), (4, 1)])):
            self.assertEqual(round_of(lot), round_of(other))

    def test_rows_of_just_2000_and_of_one_more(self):
        self.assertEqual(round_of([(1, 2000)]).row, (0,) * 2000)
        self.assertEqual(error_of(round_of, [(1, 2001)]), ("TooMany", "row", 2000))
        self.assertEqual(round_of([(1, 50)] * 40).row, tuple(place for _ in range(50) for place in range(40)))
        self.assertEqual(error_of(round_of, [(1, 50)] * 39 + [(1, 51)]), ("TooMany", "row", 2000))
        self.assertEqual(len(round_of([(1999, 1999), (1999, 1)]).row), 2000)
        self.assertEqual(error_of(round_of, [(2000, 2000), (2000, 1)]), ("TooMany", "row", 2000))
        self.assertEqual(len(round_of([(2000, 1999), (2000, 1)]).row), 2000)
        self.assertEqual(error_of(round_of, [(2001, 2000), (2001, 1)]), ("TooMany", "row", 2000))
        self.assertEqual(round_of([(MOST, 1)]).row, (0,))

    def test_far_too_many_in_a_short_time(self):
        for lot in (GREAT_KEPT, GREAT_CROWDED, [(1, MOST)] * 40, [(MOST - place, 1) for place in range(40)]):
            self.assertEqual(error_of(round_of, lot), ("TooMany", "row", 2000))
            self.assertLess(seconds_of(error_of, round_of, lot), 1)

    def test_wrong_factors(self):
        for wrong in NO_LISTS + ([], (), [(1, 1)] * 41, [(1, True)], [(0, 1)], [(1, MOST + 1)], [(1, 1, 1)], (1, 1), [1]):
            self.assertEqual(error_of(round_of, wrong), ("BadFactor", "factors"))

    def test_lists_and_tuples_alike_and_what_is_passed_stays(self):
        lot = [[6, 4], [3, 1]]
        for other in (lot, tuple(lot), [(6, 4), [3, 1]], ((6, 4), (3, 1))):
            self.assertEqual(round_of(factors=other).row, (0, 0, 1))
        self.assertEqual(lot, [[6, 4], [3, 1]])

    def test_short_time(self):
        great = Order([0] * 1000 + list(range(1000)))
        for call, given in ((Order, (list(range(2000)),)), (kept_by, (great,)), (tick_at, (great, 0, FAR)),
                            (round_of, ([(1, 50)] * 40,)), (round_of, ([(2000, 1999), (2000, 1)],)), (round_of, (HALF,))):
            self.assertLess(seconds_of(call, *given), 1)


if __name__ == "__main__":
    unittest.main()

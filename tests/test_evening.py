"""The whole program: functions that take factors are of one mind, and one evening of finding is told alike by all."""

import unittest

from duetickers.check_factors import shows_factors
from duetickers.check_finders import shows_found, shows_found_among
from duetickers.counts import first_programs
from duetickers.desks import Desk
from duetickers.dealers import Dealer
from duetickers.dues import due_of, first_late, order_of, pair_at, steps_by, tick_of
from duetickers.factors import Kept, due_by, judged_factors, scaled, share_sum
from duetickers.finders import Found, find, find_among
from duetickers.orders import round_of
from duetickers.pictures import ticks_picture
from duetickers.programs import factor_of, program_in, text_of
from duetickers.puzzles import Puzzle, is_right
from duetickers.rows import row_dealer, row_found
from duetickers.runs import said_by
from duetickers.tables import said_table
from duetickers.tongues import Tongue
from duetickers.wholes import made_by, order_in, pair_in, tick_in
from tests.lots import MOST
from tests.tongue_list import ALL
from tests.told import NO_INTEGERS, NO_LISTS, error_of

PUZZLE = Puzzle("a n =")
PROGRAMS = [["up", "say"], ["swap", "say"]]
NO_FACTORS = NO_LISTS + ([], (), [(1, 1)] * 41, [1], (1, 1), [1, 1], [[1]], [(1,)], [(1, 1, 1)], ["11"], [{1: 1, 2: 2}],
                         {(1, 1): 1}, {(1, 1)}, "11", [(1, 1), None], [(1, 1), [(1, 1)]])


def among(factors, puzzle, given, most):
    """What find_among tells of two programs."""
    return find_among(PROGRAMS, factors, puzzle, given, most)


def shows_among(factors, puzzle, given, most, value):
    """What shows_found_among tells of two programs."""
    return shows_found_among(PROGRAMS, factors, puzzle, given, most, value)


# Each function with what stands behind the factors.
CALLS = ((share_sum, ()), (due_by, (5,)), (scaled, ()), (judged_factors, ()), (shows_factors, (Kept(1, 1),)), (due_of, (0, 3)),
         (tick_of, (1, 3)), (pair_at, (7,)), (steps_by, (7,)), (order_of, (9,)), (first_late, (50,)), (round_of, ()),
         (ticks_picture, (9,)), (among, (PUZZLE, 5, 90)), (shows_among, (PUZZLE, 5, 90, Found(5, ("swap", "say"), 5, 10))))


class TestFactors(unittest.TestCase):
    def test_wrong_ones_are_refused_ahead_of_what_stands_behind(self):
        for call, rest in CALLS:
            for wrong in NO_FACTORS:
                self.assertEqual(error_of(call, wrong, *rest), ("BadFactor", "factors"), call)
                self.assertEqual(error_of(call, wrong, *[None] * len(rest)), ("BadFactor", "factors"), call)
            for wrong in NO_INTEGERS + (0, -1, MOST + 1, 10 ** 30):
                for pair in ((wrong, 1), (1, wrong), [wrong, 1], [1, wrong]):
                    self.assertEqual(error_of(call, [(2, 1), pair], *rest), ("BadFactor", "factors"), call)

    def test_at_the_bounds_all_are_taken(self):
        for call, rest in CALLS:
            for factors in ([(1, 1), (MOST, MOST)], [(MOST, 1), (1, 1)], [(MOST, MOST), [MOST, MOST]]):
                self.assertIn(error_of(call, factors, *rest), (None, ("TooMany", "row", 2000)), call)

    def test_not_reduced_lists_and_tuples_alike(self):
        for call, rest in CALLS:
            for factors, others in (([(2, 1), (2, 1)], ([[4, 2], [500000, 250000]], ((2, 1), (MOST, 500000)), [[2, 1], (6, 3)])),
                                    ([(3, 2), (3, 1)], (((6, 4), (9, 3)), [[3, 2], [3, 1]], ([300, 200], (3, 1)))),
                                    ([(1, 3), (7, 5)], (((2, 6), [70, 50]), [(100, 300), (14, 10)]))):
                for other in others:
                    self.assertEqual(call(other, *rest), call(factors, *rest), call)

    def test_what_was_passed_stays(self):
        for call, rest in CALLS:
            factors = [[6, 4], [3, 1]]
            call(factors, *rest)
            self.assertEqual(factors, [[6, 4], [3, 1]], call)


class TestEvening(unittest.TestCase):
    def evenings(self):
        """Desks told by texts, with answers that are due by 20,000."""
        found = []
        for tongue in ALL:
            for check in ("a n =", "a 0 =", "a 1 =", "0 a < a 5 < and", "a a * n =", "a n n + =", "a -1 =", "a n < not"):
                for given in (1, 4, -3):
                    text = f"{tongue} / {check} / {given} 0"
                    desk = Desk.read(text)
                    self.assertEqual(str(desk), text)
                    while desk.found is None and desk.tick < 19000:
                        # At the first stops the desk is told by its text alone.
                        desk = Desk.read(str(desk)) if desk.tick < 2000 else desk
                        desk.go(777)
                    if desk.found is not None and desk.found.step * factor_of(desk.tongue, desk.found.program) <= 20000:
                        found.append((Tongue.read(str(tongue)), Puzzle(check), given, desk))
        self.assertGreater(len(found), 60)
        return found

    def test_one_evening(self):
        within, alone = 0, 0
        for tongue, puzzle, given, desk in self.evenings():
            answer, program, step, tick = desk.found.parts
            factor = factor_of(tongue, program)
            self.assertEqual(program_in(tongue, text_of(tongue, program)), program)
            self.assertIs(is_right(puzzle, given, answer), True)
            # Ahead of what is said at the place at, at checks were made.
            said = list(enumerate(said_by(program, given, step)))
            self.assertIn((step - puzzle.cost, answer), [(run_step + at * puzzle.cost, value) for at, (run_step, value) in said])
            self.assertEqual(find(tongue, puzzle, given, tick + 9), desk.found)
            self.assertIs(shows_found(tongue, puzzle, given, tick, desk.found), True)
            self.assertEqual([tick_in(tongue, program, step), pair_in(tongue, tick), made_by(tongue, program, tick)],
                             [tick, (program, step), step])
            self.assertEqual(made_by(tongue, program, tick - 1), step - 1)
            self.assertLessEqual(tick, step * factor)
            row = [row for row in said_table(tongue, given, step * factor) if row[0] == answer][0]
            self.assertLessEqual(row[3], (step - puzzle.cost) * factor)
            within += self.among_others(tongue, puzzle, given, desk.found)
            alone += self.by_itself(puzzle, given, desk.found, factor)
        self.assertGreater(min(within, alone), 20)

    def among_others(self, tongue, puzzle, given, paper):
        """Whether all programs with a step due so soon could be handed to find_among, which then tells the same."""
        due = paper.step * factor_of(tongue, paper.program)
        programs = [program for program in first_programs(tongue, 41) if factor_of(tongue, program) <= due]
        if len(programs) > 40:
            return False
        factors = [(factor_of(tongue, program), 1) for program in programs]
        self.assertEqual(find_among(programs, factors, puzzle, given, paper.tick), paper)
        self.assertEqual(order_of(factors, min(paper.tick, 2000)), tuple(
            (programs.index(program), step) for program, step in order_in(tongue, min(paper.tick, 2000))))
        return True

    def by_itself(self, puzzle, given, paper, factor):
        """Whether the program's factor could be handed to find_among with it alone, which then tells the same step."""
        if factor > MOST:
            return False
        answer, program, step, tick = paper.parts
        told = Found(answer, program, step, step)
        self.assertEqual(find_among([program], [(factor, 1)], puzzle, given, step + 9), told)
        self.assertEqual(row_found([program], [(1, factor)], [puzzle] * 2, given, step + 9), (told, told))
        self.assertEqual(row_dealer([program], [(1, factor)], [puzzle] * 2, given, step + 9), Dealer.read(f"1 {factor} 2"))
        return True


if __name__ == "__main__":
    unittest.main()

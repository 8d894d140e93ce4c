"""The finder among all programs of a tongue, and among given ones."""

import unittest
from random import Random

from duetickers.finders import Found, NotYet, find, find_among
from duetickers.puzzles import Puzzle
from duetickers.runs import said_by
from duetickers.wholes import tick_in
from tests.lots import GREAT_CROWDED, GREAT_KEPT, MOST
from tests.slow_finder import slow_among, slow_whole
from tests.slow_machine import WORDS
from tests.tongue_list import ALL, EARLY, LONG, PLAIN, QUICK, SHORT, SPARSE, STEEP, of_lengths, slow_steps
from tests.told import NO_INTEGERS, NO_LISTS, Odd, error_of, seconds_of

BOUND = 10 ** 18
SAME = Puzzle("a n =")
NEVER = Puzzle("a a <")
ROUNDS = [["up", "say"], ["swap", "say"]]
NO_TONGUES = NO_LISTS + (PLAIN.names, str(PLAIN))
NO_PUZZLES = (None, True, 0, "a n =", ["a", "n", "="], object(), Odd(), Puzzle)
NO_PROGRAMS = NO_LISTS + ("say", ["end"], ["say", "end"], ("Say",), [None], [["say"]], ["say"] * 201, {"say": 1})
NO_FACTORS = NO_LISTS + ([], (), [(1, 1)] * 41, [(1, True)], [(0, 1)], [(1, MOST + 1)], [(1, 1, 1)], (1, 1), [[1]])
CHECKS = ("a n =", "a a <", "a 1 =", "a 0 =", "n a <", "a n n + =", "a a * n =", "a 2 rem 1 = n a < and", "a 0 <",
          "a 3 rem 2 =", "a 0 = not", "a 5 = a -1 = or", "0 1 <", "a 0 = not not not not not not not not")


class TestExamples(unittest.TestCase):
    def test_find(self):
        self.assertIs(find(PLAIN, SAME, 0, 100) == Found(0, ["say"], 4, 54), True)
        self.assertEqual([find(PLAIN, SAME, 0, 53).tick, bool(find(PLAIN, SAME, 0, 53))], [53, False])
        told = find(QUICK, Puzzle("a 2 ="), 7, 1000)
        self.assertEqual([told.answer, told.program, told.step], [2, ("up", "say"), 11])

    def test_find_among(self):
        told = [find_among(ROUNDS, [[2, 1], [2, 1]], SAME, 5, 100).parts,
                find_among(ROUNDS, [[10, 9], [10, 1]], SAME, 2, 100).parts]
        self.assertEqual(told, [(5, ("swap", "say"), 5, 10), (2, ("up", "say"), 11, 12)])
        self.assertEqual(error_of(find_among, ROUNDS, [[2, 1]], SAME, 5, 100), ("Misfit", "factors"))


class TestFind(unittest.TestCase):
    def test_against_a_slow_finder(self):
        luck, found = Random(50), 0
        for tongue in ALL:
            pairs = slow_steps(tongue, {str(LONG): 18, str(SPARSE): 14}.get(str(tongue), 12))[:1500]
            for text in CHECKS:
                given = luck.choice((0, 1, 2, 3, -1, 5, 49, BOUND, -BOUND))
                paper = slow_whole(pairs, text, given, len(pairs))
                found += bool(paper)
                self.assertEqual(find(tongue, Puzzle(text), given, len(pairs)), paper, (str(tongue), text, given))
        self.assertGreater(found, 40)

    def test_most_at_the_tick_of_the_answer_and_one_below(self):
        for tongue in (PLAIN, SHORT, QUICK, STEEP, EARLY):
            for text in CHECKS:
                paper = find(tongue, Puzzle(text), 3, 9000)
                if not paper:
                    continue
                self.assertEqual(tick_in(tongue, paper.program, paper.step), paper.tick)
                self.assertEqual(find(tongue, Puzzle(text), 3, paper.tick), paper)
                self.assertEqual(find(tongue, Puzzle(text), 3, paper.tick - 1), NotYet(paper.tick - 1))
                self.assertEqual(find(tongue, Puzzle(text), 3, 20000), paper)

    def test_the_steps_of_the_check_count(self):
        for cost in (3, 4, 9, 40):
            text = "a n =" + " not" * (cost - 3)
            puzzle = Puzzle(text)
            wanted = 0 if cost % 2 else 1
            paper = find_among([["say", "up"]], [(1, 1)], puzzle, 0, 500)
            # The first answer is said with step 1; the other one behind its check, and behind up, end, say.
            step = 1 + cost if wanted == 0 else 1 + cost + 3 + cost
            self.assertEqual(paper, Found(wanted, ("say", "up"), step, step))
        self.assertEqual(find(PLAIN, Puzzle("a n = not not"), 0, 200), Found(0, ("say",), 6, tick_in(PLAIN, ["say"], 6)))

    def test_found_early_late_and_never(self):
        self.assertEqual(find(EARLY, Puzzle("0 1 <"), 9, 20000).program, ("say",))
        self.assertEqual(find(PLAIN, NEVER, 0, 20000), NotYet(20000))
        self.assertEqual(find(PLAIN, SAME, 1000, 20000).program, ("swap", "say"))
        self.assertEqual(find(PLAIN, Puzzle("a 1 ="), 0, 20000).program, ("up", "say"))
        self.assertEqual(find(QUICK, Puzzle("a 12 ="), 0, 20000).answer, 12)
        self.assertEqual(find(PLAIN, Puzzle("a n n * ="), 1000, 20000).parts[:3], (10 ** 6, ("add", "times", "say"), 8))
        self.assertEqual(find(PLAIN, Puzzle("a n n * n * ="), 1000, 20000), NotYet(20000))

    def test_given_at_the_bounds(self):
        for given in (BOUND, -BOUND):
            self.assertEqual(find(PLAIN, SAME, given, 20000).parts[:3], (given, ("swap", "say"), 5))
            self.assertEqual(find_among([["swap", "say"]], [(1, 1)], SAME, given, 5), Found(given, ("swap", "say"), 5, 5))
        for wrong in NO_INTEGERS + (BOUND + 1, -BOUND - 1, 10 ** 300):
            self.assertEqual(error_of(find, PLAIN, SAME, wrong, 5), ("BadNumber", "given"))
            self.assertEqual(error_of(find_among, ROUNDS, [(2, 1)] * 2, SAME, wrong, 5), ("BadNumber", "given"))

    def test_most_at_the_bounds(self):
        self.assertEqual(find(PLAIN, SAME, 0, 1), NotYet(1))
        self.assertEqual(find(most=20000, given=0, puzzle=SAME, tongue=PLAIN), Found(0, ["say"], 4, 54))
        self.assertEqual(find_among([()], [(1, 1)], SAME, 0, 1), NotYet(1))
        self.assertEqual(find_among([()], [(1, 1)], SAME, 0, 20000), NotYet(20000))
        for wrong in NO_INTEGERS + (0, -1, 20001, 10 ** 30):
            self.assertEqual(error_of(find, PLAIN, SAME, 0, wrong), ("BadNumber", "most"))
            self.assertEqual(error_of(find_among, ROUNDS, [(2, 1)] * 2, SAME, 0, wrong), ("BadNumber", "most"))


class TestAmong(unittest.TestCase):
    def test_against_a_slow_finder(self):
        luck, found = Random(51), 0
        for _ in range(400):
            many = luck.choice((1, 2, 3, 5, 8))
            programs = [tuple(luck.choice(WORDS) for _ in range(luck.randrange(6))) for _ in range(many)]
            factors = [(luck.randrange(1, 9), luck.randrange(1, 9)) for _ in range(many)]
            text, given = luck.choice(CHECKS), luck.choice((0, 1, 3, -2, BOUND))
            paper = slow_among(programs, factors, text, given, 150)
            found += bool(paper)
            self.assertEqual(find_among(programs, factors, Puzzle(text), given, 150), paper)
        self.assertGreater(found, 100)

    def test_forty_programs(self):
        luck = Random(52)
        for lot in (GREAT_KEPT, GREAT_CROWDED, [(1, 1)] * 40, [(2, 1)] * 40):
            programs = [[luck.choice(WORDS) for _ in range(luck.randrange(1, 5))] for _ in range(40)]
            for text in ("a n =", "a 2 rem 1 = n a < and", "a n n + ="):
                self.assertEqual(find_among(programs, lot, Puzzle(text), 3, 900),
                                 slow_among([tuple(program) for program in programs], lot, text, 3, 900))

    def test_alike_programs_and_dues(self):
        alike = [["say"], ["say"], ["say"]]
        self.assertEqual(find_among(alike, [(1, 1)] * 3, SAME, 0, 50), Found(0, ("say",), 4, 10))
        self.assertEqual(find_among(alike, [(3, 1), (2, 1), (2, 1)], SAME, 0, 50), Found(0, ("say",), 4, 9))
        self.assertEqual(find_among(ROUNDS[::-1], [[2, 1], [2, 1]], SAME, 1, 100).parts, (1, ("swap", "say"), 5, 9))
        self.assertEqual(find_among(ROUNDS, [[2, 1], [2, 1]], SAME, 1, 100).parts, (1, ("up", "say"), 5, 9))

    def test_factors_that_are_fractions_of_any_sum(self):
        self.assertEqual(find_among([["say"]], [(MOST, 1)], SAME, 0, 4), Found(0, ("say",), 4, 4))
        self.assertEqual(find_among([["say"]], [(1, MOST)], SAME, 0, 4), Found(0, ("say",), 4, 4))
        self.assertEqual(find_among([["say"], []], [(MOST, 1), (1, MOST)], SAME, 0, 20000), NotYet(20000))
        self.assertEqual(find_among([["say"], []], [(9, 2), (3, 2)], SAME, 0, 100), Found(0, ("say",), 4, 15))
        self.assertEqual(find_among([[], ["say"]], [(3, 2), (9, 2)], SAME, 0, 100), Found(0, ("say",), 4, 16))

    def test_programs_that_fall_or_say_nothing(self):
        falls = ["swap", "up", "say"]
        self.assertEqual(find_among([falls, ["swap", "say"]], [(1, 1), (9, 1)], SAME, BOUND, 5000),
                         Found(BOUND, ("swap", "say"), 5, 50))
        for program in ([], ["up"], ["skip"], falls, ["times", "swap"]):
            self.assertEqual(find_among([program], [(1, 1)], Puzzle("0 1 <"), BOUND, 20000), NotYet(20000))
            self.assertEqual(find_among([program, ["say"]], [(1, 1), (1, 1)], Puzzle("0 1 <"), BOUND, 50),
                             Found(0, ("say",), 4, 8))

    def test_what_is_said_comes_only_behind_the_check(self):
        # Without checks "say up" says 0, 1, 2 and so on every third step; each check takes three more.
        self.assertEqual(said_by(["say", "up"], 0, 8), ((1, 0), (4, 1), (7, 2)))
        for number in range(9):
            step = 6 * number + 4
            self.assertEqual(find_among([["say", "up"]], [(1, 1)], SAME, number, 100), Found(number, ("say", "up"), step, step))

    def test_numbers_of_programs_and_factors(self):
        for many in (1, 2, 40):
            programs = [["say"]] * many
            self.assertIsNone(error_of(find_among, programs, [(2, 1)] * many, SAME, 0, 9))
            for other in (many - 1, many + 1):
                if 1 <= other <= 40:
                    self.assertEqual(error_of(find_among, programs, [(2, 1)] * other, SAME, 0, 9), ("Misfit", "factors"))
        for programs in ([], (), [["say"]] * 41):
            self.assertEqual(error_of(find_among, programs, [(2, 1)], SAME, 0, 9), ("BadProgram", "programs"))

    def test_lists_and_tuples_alike(self):
        told = find_among(ROUNDS, [[2, 1], [2, 1]], SAME, 5, 100)
        for programs in (ROUNDS, tuple(ROUNDS), [tuple(program) for program in ROUNDS]):
            for factors in ([(2, 1)] * 2, ((2, 1),) * 2, ([2, 1], (2, 1))):
                self.assertEqual(find_among(programs, factors, SAME, 5, 100), told)
        self.assertEqual(find_among(most=100, given=5, puzzle=SAME, factors=[(2, 1)] * 2, programs=ROUNDS), told)

    def test_what_is_passed_stays(self):
        programs, factors = [["up", "say"], ["swap", "say"]], [[4, 2], [2, 1]]
        find_among(programs, factors, SAME, 5, 100)
        self.assertEqual((programs, factors), ([["up", "say"], ["swap", "say"]], [[4, 2], [2, 1]]))


class TestArguments(unittest.TestCase):
    def test_wrong_tongues_and_puzzles(self):
        for wrong in NO_TONGUES:
            self.assertEqual(error_of(find, wrong, SAME, 0, 5), ("BadTongue", "tongue"))
        for wrong in NO_PUZZLES:
            self.assertEqual(error_of(find, PLAIN, wrong, 0, 5), ("BadPuzzle", "puzzle"))
            self.assertEqual(error_of(find_among, ROUNDS, [(2, 1)] * 2, wrong, 0, 5), ("BadPuzzle", "puzzle"))

    def test_wrong_programs_and_factors(self):
        for wrong in NO_PROGRAMS:
            self.assertEqual(error_of(find_among, [wrong], [(1, 1)], SAME, 0, 5), ("BadProgram", "programs"))
            self.assertEqual(error_of(find_among, [["say"], wrong], [(1, 1)] * 2, SAME, 0, 5), ("BadProgram", "programs"))
        for wrong in NO_LISTS + ("say", ["say"], ("say",), {("say",): 1}):
            self.assertEqual(error_of(find_among, wrong, [(1, 1)], SAME, 0, 5), ("BadProgram", "programs"))
        for wrong in NO_FACTORS:
            self.assertEqual(error_of(find_among, ROUNDS, wrong, SAME, 0, 5), ("BadFactor", "factors"))

    def test_the_first_wrong_one_is_told(self):
        given = [PLAIN, SAME, 0, 5]
        for place, wanted in ((3, ("BadNumber", "most")), (2, ("BadNumber", "given")), (1, ("BadPuzzle", "puzzle")),
                              (0, ("BadTongue", "tongue"))):
            given[place] = None
            self.assertEqual(error_of(find, *given), wanted)
        given = [ROUNDS, [(1, 1)], SAME, 0, 5]
        self.assertEqual(error_of(find_among, *given), ("Misfit", "factors"))
        for place, wanted in ((4, ("BadNumber", "most")), (3, ("BadNumber", "given")), (2, ("BadPuzzle", "puzzle")),
                              (1, ("BadFactor", "factors")), (0, ("BadProgram", "programs"))):
            given[place] = None
            self.assertEqual(error_of(find_among, *given), wanted)

    def test_papers(self):
        paper = Found(tick=[1], step=2, program=["say"], answer=None)
        self.assertEqual((paper.answer, paper.program, paper.step, paper.tick), (None, ("say",), 2, (1,)))
        self.assertEqual((paper.parts, paper.word, bool(paper)), ((None, ("say",), 2, (1,)), "found", True))
        paper = NotYet(tick=[3])
        self.assertEqual((paper.tick, paper.parts, paper.word, bool(paper)), ((3,), ((3,),), "notyet", False))

    def test_short_time(self):
        forty = Puzzle("a a =" + " not" * 37)
        for tongue in ALL + (of_lengths([2, 8, 3, 4, 4, 8, 8, 3]), of_lengths([1, 2, 8, 8, 8, 8, 8, 3])):
            for puzzle in (NEVER, forty):
                self.assertEqual(find(tongue, puzzle, 3, 20000), NotYet(20000))
                self.assertLess(seconds_of(find, tongue, puzzle, 3, 20000), 3)
        programs = [["say", "up", "times", "skip", "swap"] * 40] * 40
        for lot in (GREAT_KEPT, GREAT_CROWDED, [(1, MOST)] * 40):
            self.assertLess(seconds_of(find_among, programs, lot, NEVER, 3, 20000), 3)


if __name__ == "__main__":
    unittest.main()

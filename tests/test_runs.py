"""Runs: each word, rounds, falls, what is said, copies, circles."""

import unittest
from random import Random

from duetickers.runs import Run, circle_of, said_by
from tests.slow_machine import Machine, short_programs, slow_circle, slow_said, slow_standings
from tests.told import NO_INTEGERS, NO_LISTS, Odd, error_of, seconds_of

WORDS = ("say", "up", "down", "swap", "add", "times", "skip")
BOUND = 10 ** 18
NO_WORDS = ("end", "", "Say", " up", "up ", "0", "sa", "/", None, True, 0, 1.5, b"up", ["up"], ("up",), object(), Odd())
GIVEN = (0, 1, -1, 2, 7, -5, BOUND, -BOUND, BOUND - 1, 10 ** 9, -10 ** 9)


def facts(run):
    """All that is told of a run."""
    return (run.program, run.given, run.left, run.right, run.spot, run.steps, run.has_fallen)


def standing(run):
    """What the boxes hold, the spot, and whether the run has fallen."""
    return (run.left, run.right, run.spot, run.has_fallen)


class TestExamples(unittest.TestCase):
    def test_going_on(self):
        run = Run(["up", "say"], 5)
        self.assertEqual([run.go(6), run.left, run.right, run.spot, run.steps, run.has_fallen],
                         [((2, 1), (5, 2)), 2, 5, 0, 6, False])
        told = [run.advance(), run.advance(), run.advance(), str(run), run == Run.read("up say / 5 / 3 5 0 9 / 0"),
                run == run.copy()]
        self.assertEqual(told, [None, 3, None, "up say / 5 / 3 5 0 9 / 0", True, True])

    def test_said_by(self):
        told = [said_by(("swap", "say"), 7, 5), said_by(("up", "skip", "down", "say"), 0, 7), said_by((), 3, 9)]
        self.assertEqual(told, [((2, 7), (5, 0)), ((3, 1), (7, 2)), ()])

    def test_last_and_high(self):
        last = Run(("up", "skip"), 0)
        self.assertEqual([last.go(4), last.left, last.spot, last.steps], [(), 2, 0, 4])
        high = Run(("add", "swap"), BOUND)
        told = [high.go(9), high.left == 2 * BOUND, high.spot, high.steps, high.has_fallen]
        self.assertEqual(told, [(), True, 1, 9, True])

    def test_circles(self):
        told = [circle_of(("swap", "say"), 7, 100), circle_of(("add", "swap"), BOUND, 100), circle_of(("up",), 0, 50),
                circle_of((), 4, 1)]
        self.assertEqual(told, [(0, 6), (4, 1), None, (0, 1)])

    def test_errors(self):
        self.assertEqual(error_of(Run, ["end"], 0), ("BadProgram", "program"))
        self.assertEqual(error_of(Run.read, "up / 5 / 2 5 3 0 / 0"), ("BadText", 0, 6))


class TestSteps(unittest.TestCase):
    def test_a_new_run(self):
        for run in (Run(["up", "say"], 5), Run(("up", "say"), 5), Run(given=5, program=["up", "say"])):
            self.assertEqual(facts(run), (("up", "say"), 5, 0, 5, 0, 0, False))
            self.assertIs(type(run.program), tuple)
            self.assertIs(run.has_fallen, False)
        self.assertEqual(facts(Run([], -3)), ((), -3, 0, -3, 0, 0, False))

    def test_each_word_by_itself(self):
        wanted = {"say": (3, 5, 0), "up": (4, 5, None), "down": (2, 5, None), "swap": (5, 3, None),
                  "add": (8, 5, None), "times": (15, 5, None), "skip": (3, 5, None)}
        for word in WORDS:
            run = Run.read(f"{word} swap / 9 / 3 5 0 0 / 0")
            said = run.advance()
            left, right, told = wanted[word]
            self.assertEqual((run.left, run.right), (left, right), word)
            self.assertEqual(said, 3 if word == "say" else None)
            self.assertEqual((run.spot, run.steps), (2 if word == "skip" else 1, 1))

    def test_end_by_itself(self):
        run = Run.read("swap up / 9 / 3 5 2 0 / 0")
        self.assertIsNone(run.advance())
        self.assertEqual(standing(run), (3, 5, 0, False))

    def test_say_says_zero(self):
        run = Run(["say"], 8)
        self.assertEqual(run.advance(), 0)
        self.assertIsNone(run.advance())
        self.assertEqual(run.advance(), 0)

    def test_the_round_of_no_words(self):
        run = Run((), 6)
        for step in range(1, 5):
            self.assertIsNone(run.advance())
            self.assertEqual(facts(run), ((), 6, 0, 6, 0, step, False))
        self.assertEqual(run.go(5000), ())
        self.assertEqual(run.steps, 5004)

    def test_skip_as_the_last_word(self):
        run = Run.read("up skip / 0 / 0 0 1 0 / 0")
        run.advance()
        self.assertEqual(run.spot, 2)
        run = Run.read("up skip / 0 / -1 0 1 0 / 0")
        run.advance()
        self.assertEqual(run.spot, 0)

    def test_skip_ahead_of_the_last_word(self):
        for left, spot in ((0, 1), (1, 2), (-1, 2), (BOUND, 2)):
            run = Run.read(f"skip say / 0 / {left} 0 0 0 / 0")
            run.advance()
            self.assertEqual(standing(run), (left, 0, spot, False))

    def test_skip_alone(self):
        for left, spot in ((0, 1), (4, 0)):
            run = Run.read(f"skip / 0 / {left} 0 0 0 / 0")
            run.advance()
            self.assertEqual((run.spot, run.steps), (spot, 1))

    def test_skip_twice_in_a_row(self):
        for left, spots in ((0, [1, 2, 3, 4, 0]), (2, [2, 3, 4, 0, 2])):
            run = Run.read(f"skip skip swap swap / {left} / {left} {left} 0 0 / 0")
            told = []
            for _ in range(5):
                run.advance()
                told.append(run.spot)
            self.assertEqual(told, spots)

    def test_what_is_passed_over_takes_no_step(self):
        self.assertEqual(said_by(["up", "skip", "say", "say"], 0, 8), ((3, 1), (7, 2)))
        self.assertEqual(said_by(["skip", "up", "say"], 0, 4), ((3, 1),))
        self.assertEqual(said_by(["skip", "up", "say"], 0, 6), ((3, 1), (6, 1)))

    def test_against_the_slow_machine_step_by_step(self):
        for program in short_programs(3):
            for given in (0, 1, -2, 10 ** 9, BOUND):
                run, machine = Run(program, given), Machine(program, given)
                for _ in range(14):
                    said = run.advance()
                    self.assertEqual([] if said is None else [said], machine.step(), (program, given))
                    self.assertEqual(standing(run), machine.standing(), (program, given))
                    self.assertEqual(run.steps, machine.steps)

    def test_longer_rounds_against_the_slow_machine(self):
        luck = Random(11)
        for _ in range(300):
            program = [luck.choice(WORDS) for _ in range(luck.randrange(1, 30))]
            given = luck.choice(GIVEN)
            run = Run(program, given)
            self.assertEqual(run.go(200), slow_said(program, given, 200))
            self.assertEqual(standing(run), slow_standings(program, given, 200)[-1])
            self.assertEqual(run.steps, 200)


class TestFalls(unittest.TestCase):
    def fall(self, word, left, right):
        """The run behind a step with this word, said by none."""
        run = Run.read(f"{word} say / 3 / {left} {right} 0 7 / 0")
        self.assertIsNone(run.advance())
        return run

    def test_just_at_the_bound_and_one_beyond(self):
        half = BOUND // 2
        rows = (("up", BOUND - 1, 0, 1), ("down", 1 - BOUND, 0, -1), ("add", half, half, 1), ("add", -half, -half, -1),
                ("add", BOUND - 1, 1, 1), ("times", 10 ** 9, 10 ** 9, 1), ("times", -10 ** 9, 10 ** 9, -1),
                ("times", BOUND, 1, 1), ("times", BOUND, -1, -1))
        for word, left, right, sign in rows:
            run = self.fall(word, left, right)
            self.assertEqual(facts(run), ((word, "say"), 3, sign * BOUND, right, 1, 8, False))
        beyond = (("up", BOUND, 0, BOUND + 1), ("down", -BOUND, 0, -BOUND - 1), ("add", half, half + 1, BOUND + 1),
                  ("add", -half, -half - 1, -BOUND - 1), ("add", BOUND, BOUND, 2 * BOUND),
                  ("times", 10 ** 9, 10 ** 9 + 1, BOUND + 10 ** 9), ("times", BOUND, BOUND, 10 ** 36),
                  ("times", BOUND, -BOUND, -10 ** 36), ("times", BOUND, -2, -2 * BOUND))
        for word, left, right, wanted in beyond:
            run = self.fall(word, left, right)
            self.assertEqual(facts(run), ((word, "say"), 3, wanted, right, 1, 8, True), word)
            self.assertIs(run.has_fallen, True)

    def test_one_beyond_by_times(self):
        # 10 ** 18 + 1 is a product of two, and so is 10 ** 18 - 1, which stays within the bound.
        run = self.fall("times", 1000001, 999999000001)
        self.assertEqual((run.left, run.has_fallen), (BOUND + 1, True))
        run = self.fall("times", -1000001, 999999000001)
        self.assertEqual((run.left, run.has_fallen), (-BOUND - 1, True))
        run = self.fall("times", 10 ** 9 - 1, 10 ** 9 + 1)
        self.assertEqual((run.left, run.has_fallen), (BOUND - 1, False))

    def test_no_other_word_makes_a_run_fall(self):
        for word in ("say", "swap", "skip"):
            for left in (BOUND, -BOUND):
                run = Run.read(f"{word} up / 3 / {left} {left} 0 0 / 0")
                run.advance()
                self.assertIs(run.has_fallen, False)

    def test_behind_the_fall(self):
        run = self.fall("up", BOUND, 4)
        for step in range(9, 30):
            self.assertIsNone(run.advance())
            self.assertEqual(facts(run), (("up", "say"), 3, BOUND + 1, 4, 1, step, True))
        self.assertEqual(run.go(100), ())
        self.assertEqual(facts(run), (("up", "say"), 3, BOUND + 1, 4, 1, 129, True))

    def test_spots_behind_falls(self):
        for program, spot in ((["up"], 1), (["skip", "up", "say"], 2), (["up", "skip"], 1), (["say", "say", "up"], 3)):
            at = program.index("up")
            run = Run.read(f"{' '.join(program)} / 0 / {BOUND} 0 {at} 0 / 0")
            run.advance()
            self.assertEqual((run.spot, run.has_fallen), (spot, True))

    def test_nothing_is_said_beyond(self):
        self.assertEqual(said_by(["swap", "up", "say"], BOUND, 50), ())
        self.assertEqual(said_by(["swap", "say", "up", "say"], BOUND, 50), ((2, BOUND),))
        self.assertEqual(said_by(["swap", "say", "down", "say"], -BOUND, 50), ((2, -BOUND),))


class TestGo(unittest.TestCase):
    def test_many_at_the_bounds(self):
        run = Run(["say"], 0)
        self.assertEqual(run.go(0), ())
        self.assertEqual(run.steps, 0)
        self.assertEqual(run.go(many=5000), tuple((step, 0) for step in range(1, 5000, 2)))
        self.assertEqual(run.go(3), ((5001, 0), (5003, 0)))
        self.assertEqual(run.steps, 5003)

    def test_wrong_many(self):
        for wrong in NO_INTEGERS + (-1, 5001, 10 ** 30, -10 ** 30):
            run = Run.read("up say / 5 / 3 5 1 9 / 0")
            self.assertEqual(error_of(run.go, wrong), ("BadNumber", "many"))
            self.assertEqual(str(run), "up say / 5 / 3 5 1 9 / 0")
            self.assertEqual(error_of(said_by, ["up"], 5, wrong), ("BadNumber", "many"))

    def test_pieces_make_the_whole(self):
        luck = Random(5)
        for _ in range(40):
            program = [luck.choice(WORDS) for _ in range(luck.randrange(8))]
            run, said = Run(program, 3), ()
            for many in (0, 1, 7, 2, 30, 0, 60):
                said += run.go(many)
            self.assertEqual(said, said_by(program, 3, 100))

    def test_said_by(self):
        for given in GIVEN:
            for program in short_programs(2):
                self.assertEqual(said_by(program, given, 30), slow_said(program, given, 30))
        self.assertEqual(said_by(program=["swap", "say"], given=7, many=2), ((2, 7),))
        self.assertEqual(said_by(["say"], 0, 0), ())
        self.assertIs(type(said_by(["say"], 0, 1)[0]), tuple)


class TestArguments(unittest.TestCase):
    def test_given_at_the_bounds(self):
        for given in (-BOUND, BOUND):
            self.assertEqual(Run(["up"], given).right, given)
            self.assertEqual(said_by(["swap", "say"], given, 2), ((2, given),))
            self.assertEqual(circle_of([], given, 1), (0, 1))
        for wrong in NO_INTEGERS + (-BOUND - 1, BOUND + 1, 10 ** 300):
            self.assertEqual(error_of(Run, ["up"], wrong), ("BadNumber", "given"))
            self.assertEqual(error_of(said_by, ["up"], wrong, 5), ("BadNumber", "given"))
            self.assertEqual(error_of(circle_of, ["up"], wrong, 5), ("BadNumber", "given"))

    def test_programs_at_the_bounds(self):
        run = Run(["up"] * 200, 0)
        self.assertEqual((len(run.program), run.go(201), run.left, run.spot), (200, (), 200, 0))
        for call in (Run, lambda program, given: said_by(program, given, 1),
                     lambda program, given: circle_of(program, given, 1)):
            self.assertEqual(error_of(call, ["up"] * 201, 0), ("BadProgram", "program"))
            for wrong in NO_LISTS + ("up", "up say", {"up": 1}):
                self.assertEqual(error_of(call, wrong, 0), ("BadProgram", "program"))
            for word in NO_WORDS:
                for place in range(3):
                    program = ["up", "say"]
                    program.insert(place, word)
                    self.assertEqual(error_of(call, program, 0), ("BadProgram", "program"))
                    self.assertEqual(error_of(call, tuple(program), 0), ("BadProgram", "program"))

    def test_the_first_wrong_one_is_told(self):
        self.assertEqual(error_of(Run, ["end"], BOUND + 1), ("BadProgram", "program"))
        for call, part in ((said_by, "many"), (circle_of, "most")):
            self.assertEqual(error_of(call, ["end"], BOUND + 1, -1), ("BadProgram", "program"))
            self.assertEqual(error_of(call, ["up"], BOUND + 1, -1), ("BadNumber", "given"))
            self.assertEqual(error_of(call, ["up"], BOUND, -1), ("BadNumber", part))
            self.assertEqual(error_of(call, "up", 0, -1), ("BadProgram", "program"))

    def test_what_was_passed_changes_behind(self):
        program = ["up", "say"]
        run = Run(program, 0)
        program[1] = "down"
        program.append("up")
        self.assertEqual((run.program, run.go(3)), (("up", "say"), ((2, 1),)))
        self.assertEqual(program, ["up", "down", "up"])
        for call in (said_by, circle_of):
            rounds = ["up", "say"]
            call(rounds, 0, 9)
            self.assertEqual(rounds, ["up", "say"])


class TestCopies(unittest.TestCase):
    def test_each_goes_on_by_itself(self):
        for text in ("up say / 5 / 3 5 0 9 / 0", "up say / 5 / 0 5 0 0 / 0", f"up say / 5 / {BOUND + 1} 5 1 9 / 1"):
            run = Run.read(text)
            other = run.copy()
            self.assertIs(type(other), Run)
            self.assertEqual(facts(run), facts(other))
            self.assertIs(run == other, True)
            other.go(4)
            self.assertEqual(str(run), text)
            self.assertIs(run == other, False)
            later = str(other)
            run.go(2)
            self.assertEqual(str(other), later)
            run.go(2)
            self.assertIs(run == other, True)

    def test_equal_and_unlike(self):
        texts = ["up say / 5 / 3 5 0 9 / 0", "up up / 5 / 3 5 0 9 / 0", "up say / 4 / 3 5 0 9 / 0",
                 "up say / 5 / 2 5 0 9 / 0", "up say / 5 / 3 4 0 9 / 0", "up say / 5 / 3 5 1 9 / 0",
                 "up say / 5 / 3 5 0 8 / 0", "up / 5 / 3 5 0 9 / 0", "/ 5 / 3 5 0 9 / 0",
                 f"up say / 5 / {10 ** 19} 5 0 9 / 1"]
        for one in texts:
            for other in texts:
                self.assertIs(Run.read(one) == Run.read(other), one == other)
                self.assertIs(Run.read(one) != Run.read(other), one != other)

    def test_values_of_other_classes(self):
        run = Run(["up"], 5)
        for other in (None, 5, True, str(run), ("up",), ["up"], object(), Odd(), facts(run)):
            self.assertIs(run.__eq__(other), False)
        self.assertIs(run == str(run), False)
        self.assertIs(run != run.program, True)

    def test_methods_stand_in_the_class(self):
        for method in ("__init__", "__eq__", "__str__", "copy", "advance", "go", "read"):
            self.assertIn(method, vars(Run))
        self.assertEqual({each.__module__ for each in (Run, said_by, circle_of)}, {"duetickers.runs"})


class TestCircles(unittest.TestCase):
    def test_against_the_list_of_all_standings(self):
        for program in short_programs(3):
            for given in (0, 1, -1, 3, BOUND):
                for most in (1, 2, 5, 24):
                    self.assertEqual(circle_of(program, given, most), slow_circle(program, given, most),
                                     (program, given, most))

    def test_longer_rounds(self):
        luck = Random(3)
        for _ in range(200):
            program = [luck.choice(WORDS) for _ in range(luck.randrange(4, 12))]
            self.assertEqual(circle_of(program, 1, 120), slow_circle(program, 1, 120), program)

    def test_from_the_start_and_later_ones(self):
        self.assertEqual(circle_of(["say"], 0, 5), (0, 2))
        self.assertEqual(circle_of(["up", "down"], 0, 3), (0, 3))
        self.assertEqual(circle_of(["skip", "skip", "up", "down"], 0, 20), (0, 5))
        later = [(program, circle_of(program, 2, 40)) for program in short_programs(3)]
        self.assertTrue(any(circle is not None and circle[0] > 0 for program, circle in later))

    def test_most_just_at_the_standing_that_comes_again(self):
        self.assertEqual(circle_of(["up", "down"], 0, most=3), (0, 3))
        self.assertIsNone(circle_of(["up", "down"], 0, most=2))
        rounds = ["up"] * 99 + ["down"] * 99
        self.assertEqual(circle_of(rounds, 0, 199), (0, 199))
        self.assertIsNone(circle_of(rounds, 0, 198))

    def test_fallen_runs(self):
        self.assertEqual(circle_of(["swap", "up"], BOUND, 3), (2, 1))
        self.assertIsNone(circle_of(["swap", "up"], BOUND, 2))
        self.assertEqual(circle_of(["up", "swap", "add", "times"], 10 ** 9, 5000),
                         slow_circle(["up", "swap", "add", "times"], 10 ** 9, 60))

    def test_most_at_the_bounds(self):
        self.assertEqual(circle_of([], 0, 1), (0, 1))
        self.assertIsNone(circle_of(["up"], 0, 1))
        self.assertIsNone(circle_of(["up"], 0, 5000))
        for wrong in NO_INTEGERS + (0, -1, 5001, 10 ** 30):
            self.assertEqual(error_of(circle_of, ["up"], 0, wrong), ("BadNumber", "most"))
        self.assertEqual(circle_of(program=(), given=4, most=1), (0, 1))

    def test_short_time(self):
        for program in (["up"] * 200, ["say"] * 200, ["swap", "add", "down"] * 66):
            self.assertLess(seconds_of(circle_of, program, 1, 5000), 2)
            self.assertLess(seconds_of(said_by, program, 1, 5000), 2)


if __name__ == "__main__":
    unittest.main()

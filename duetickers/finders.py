"""The finder: steps of many programs in the order of dues, until one of them says a right answer."""

from duetickers.checks import BOUND, is_row, need_within
from duetickers.dues import pairs_to
from duetickers.errors import BadProgram, Misfit
from duetickers.factors import need_factors
from duetickers.papers import Denial, Paper
from duetickers.programs import is_program
from duetickers.puzzles import holds, need_puzzle
from duetickers.runs import Run
from duetickers.tongues import need_tongue
from duetickers.wholes import pairs_in

MOST_AMONG = 40
MOST_TICKS = 20000


class Found(Paper):
    """An answer that was found, the program that said it, and the step and the tick that found it."""

    def __init__(self, answer, program, step, tick):
        Paper.__init__(self, "found", answer, program, step, tick)
        self.answer, self.program, self.step, self.tick = self.parts


class NotYet(Denial):
    """Nothing was found up to this tick."""

    def __init__(self, tick):
        Denial.__init__(self, "notyet", tick)
        self.tick = self.parts[0]


class Trial:
    """A program that tries to solve a puzzle: its run, and how many steps of a check are still to come."""

    def __init__(self, program, puzzle, given):
        self.run = Run(program, given)
        self.puzzle = puzzle
        self.left = 0
        self.answer = None

    def advance(self):
        """Make a step, of the check or of the run; whether an answer is found with it."""
        if self.left > 0:
            self.left -= 1
            return self.left == 0 and holds(self.puzzle, self.run.given, self.answer)
        self.answer = self.run.advance()
        if self.answer is not None:
            self.left = self.puzzle.cost
        return False


def need_programs(programs):
    """Raise an error unless programs is a list of 1 to 40 programs."""
    if not is_row(programs, 1, MOST_AMONG) or not all([is_program(program) for program in programs]):
        raise BadProgram("programs")


def need_numbers(given, most):
    """Raise an error unless these are an integer to give, and a number of ticks."""
    need_within(given, -BOUND, BOUND, "given")
    need_within(most, 1, MOST_TICKS, "most")


def begin_trials(trials, pairs, puzzle, given):
    """Add to the trials those of all programs whose first step is among the pairs (program, step)."""
    for program, step in pairs:
        if step == 1:
            trials[program] = Trial(program, puzzle, given)


def found_at(trials, pairs, ahead):
    """The Found of the first answer, or a NotYet; for each tick behind those ahead a pair tells a key and a step."""
    for tick, (key, step) in enumerate(pairs, start=ahead + 1):
        trial = trials[key]
        if trial.advance():
            return Found(trial.answer, trial.run.program, step, tick)
    return NotYet(ahead + len(pairs))


def found_among(programs, pairs, puzzle, given):
    """The Found of the first answer among these programs, or a NotYet; a pair tells the place of each tick's step."""
    trials = {place: Trial(program, puzzle, given) for place, program in enumerate(programs)}
    return found_at(trials, pairs, 0)


def find(tongue, puzzle, given, most):
    """The Found of the first answer among all programs of a tongue, by the tick most; otherwise a NotYet."""
    need_tongue(tongue)
    need_puzzle(puzzle, "puzzle")
    need_numbers(given, most)
    pairs = list(pairs_in(tongue, most))
    trials = {}
    begin_trials(trials, pairs, puzzle, given)
    return found_at(trials, pairs, 0)


def find_among(programs, factors, puzzle, given, most):
    """The Found of the first answer among these programs, by the tick most; otherwise a NotYet."""
    need_programs(programs)
    need_factors(factors)
    need_puzzle(puzzle, "puzzle")
    need_numbers(given, most)
    if len(programs) != len(factors):
        raise Misfit("factors")
    return found_among(programs, pairs_to(factors, most), puzzle, given)

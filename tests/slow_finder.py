"""A slow finder: it goes through a list of all steps in the order of dues, with the tests' own machine and checks."""

from duetickers.finders import Found, NotYet
from tests.lots import slow_order
from tests.slow_machine import Machine, slow_right


class Tries:
    """A program whose steps are told one behind another: each is the run's, or the check's."""

    def __init__(self, program, text, given):
        self.kinds = self.steps_of(Machine(program, given), text, given)

    def steps_of(self, machine, text, given):
        """For each step the answer that is found with it, in a list, or no answer."""
        while True:
            said = machine.step()
            yield []
            for number in said:
                for _ in text.split(" ")[1:]:
                    yield []
                yield [number] if slow_right(text, given, number) else []

    def next_step(self):
        """What is found with the next step."""
        return next(self.kinds)


def slow_find(pairs, programs, text, given, most):
    """The paper of the first answer found by a tick, if pairs tells whose step comes at each tick."""
    tries = {key: Tries(program, text, given) for key, program in programs.items()}
    made = dict.fromkeys(programs, 0)
    for tick, (key, step) in enumerate(pairs[:most], start=1):
        made[key] += 1
        assert made[key] == step
        for answer in tries[key].next_step():
            return Found(answer, programs[key], step, tick)
    return NotYet(most)


def slow_among(programs, factors, text, given, most):
    """The paper of the slow finder among given programs."""
    return slow_find(slow_order(factors, most), dict(enumerate(programs)), text, given, most)


def slow_whole(pairs, text, given, most):
    """The paper of the slow finder among all programs, whose steps in their order are told."""
    return slow_find(pairs, {program: program for program, step in pairs}, text, given, most)

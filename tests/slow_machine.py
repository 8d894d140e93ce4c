"""A slow machine for programs, and slow ways to what is said, to standings and to checks."""

from collections import deque
from itertools import product

WORDS = ("say", "up", "down", "swap", "add", "times", "skip")
BOUND = 10 ** 18


class Machine:
    """A program with a given integer: its round is a ring that is turned, so that the next word is ahead."""

    def __init__(self, program, given):
        self.ring = deque(enumerate(list(program) + ["end"]))
        self.boxes = [0, given]
        self.steps = 0
        self.fallen = False

    def step(self):
        """Make a step; the list of what it says, with one integer at most."""
        self.steps += 1
        if self.fallen:
            return []
        word = self.ring[0][1]
        self.ring.rotate(-1)
        said = [self.boxes[0]] if word == "say" else []
        if word == "skip" and self.boxes[0]:
            self.ring.rotate(-1)
        elif word == "swap":
            self.boxes.reverse()
        elif word in ("up", "down", "add", "times"):
            left, right = self.boxes
            self.boxes[0] = {"up": left + 1, "down": left - 1, "add": left + right, "times": left * right}[word]
        self.fallen = abs(self.boxes[0]) > BOUND
        return said

    def standing(self):
        """What the boxes hold, the spot that comes next, and whether the machine has fallen."""
        return (*self.boxes, self.ring[0][0], self.fallen)


def slow_said(program, given, many):
    """The pairs (steps, integer) for all that is said with so many steps."""
    machine = Machine(program, given)
    return tuple((step, number) for step in range(1, many + 1) for number in machine.step())


def slow_standings(program, given, many):
    """The standings behind 0, 1 and so on up to many steps."""
    machine = Machine(program, given)
    found = [machine.standing()]
    for _ in range(many):
        machine.step()
        found.append(machine.standing())
    return found


def slow_circle(program, given, most):
    """The circle, by looking for each standing in the list of all ahead of it."""
    standings = slow_standings(program, given, most)
    for later, standing in enumerate(standings):
        if standing in standings[:later]:
            first = standings.index(standing)
            return (first, later - first)
    return None


def short_programs(most):
    """All programs of at most so many words."""
    return [program for many in range(most + 1) for program in product(WORDS, repeat=many)]


def slow_rem(low, high):
    """The rest of low by high, found by going from 0 on; low itself if high is 0."""
    if high == 0:
        return low
    return next(rest for rest in range(abs(high)) if (low - rest) % high == 0)


def slow_right(text, given, answer):
    """Whether the answer is right, by writing the check as an expression of Python."""
    pile = []
    signs = {"=": "==", "<": "<", "+": "+", "-": "-", "*": "*", "and": "and", "or": "or"}
    for item in text.split(" "):
        if item == "not":
            pile.append(f"(not {pile.pop()})")
        elif item == "rem":
            high, low = pile.pop(), pile.pop()
            pile.append(f"slow_rem({low}, {high})")
        elif item in signs:
            high, low = pile.pop(), pile.pop()
            pile.append(f"({low} {signs[item]} {high})")
        else:
            pile.append(f"({ {'a': answer, 'n': given}.get(item, item)})")
    return eval(pile[-1], {"slow_rem": slow_rem})

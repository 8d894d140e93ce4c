"""Runs: a program makes its steps, one by one, and says things."""

from duetickers.checks import BOUND, integer_in, is_within, items_of, need_within
from duetickers.errors import BadText
from duetickers.programs import MOST_WORDS, need_program
from duetickers.tongues import Tongue

MOST_LEFT = 10 ** 40
MOST_STEPS = 5000
# How many items stand behind the words in the text of a run.
MANY_BEHIND = 9


class Run:
    """A program that was given an integer, and has made some steps: it changes."""

    def __init__(self, program, given):
        need_program(program)
        need_within(given, -BOUND, BOUND, "given")
        self.program = tuple(program)
        self.given = given
        self.left = 0
        self.right = given
        self.spot = 0
        self.steps = 0
        self.has_fallen = False

    def __eq__(self, other):
        if not isinstance(other, Run) or standing_of(self) != standing_of(other):
            return False
        return (self.program, self.given, self.steps) == (other.program, other.given, other.steps)

    def __str__(self):
        words = "".join([f"{word} " for word in self.program])
        boxes = f"{self.left} {self.right} {self.spot} {self.steps}"
        return f"{words}/ {self.given} / {boxes} / {fallen_sign(self.left)}"

    def copy(self):
        """Another run, equal to this one."""
        return run_at(self.program, self.given, self.left, self.right, self.spot, self.steps)

    def advance(self):
        """Make a step; the integer that was said, None if none was."""
        self.steps += 1
        if self.has_fallen:
            return None
        word = word_at(self.program, self.spot)
        way = 2 if word == "skip" and self.left != 0 else 1
        # End comes behind the last word, and the first one behind end.
        self.spot = (self.spot + way) % (len(self.program) + 1)
        self.left, self.right = boxes_behind(word, self.left, self.right)
        self.has_fallen = is_fall(self.left)
        return self.left if word == "say" else None

    def go(self, many):
        """Make so many steps; the pairs (steps, integer) for all that was said."""
        need_within(many, 0, MOST_STEPS, "many")
        said = []
        for _ in range(many):
            number = self.advance()
            if number is not None:
                said.append((self.steps, number))
        return tuple(said)

    @staticmethod
    def read(text):
        """The run with this text."""
        parts = items_of(text)
        many = words_ahead(parts)
        behind = parts[many:]
        place = misfit_behind(behind, many)
        if place is not None:
            raise BadText(0, many + place)
        given, left, right, spot, steps = [int(behind[at]) for at in (1, 3, 4, 5, 6)]
        return run_at(parts[:many], given, left, right, spot, steps)


def standing_of(run):
    """All on which the steps to come depend."""
    return (run.left, run.right, run.spot, run.has_fallen)


def run_at(program, given, left, right, spot, steps):
    """The run of the program with this standing, behind so many steps."""
    run = Run(program, given)
    run.left = left
    run.right = right
    run.spot = spot
    run.steps = steps
    run.has_fallen = is_fall(left)
    return run


def is_fall(left):
    """Whether a run has fallen if its left box holds this."""
    return not is_within(left, -BOUND, BOUND)


def fallen_sign(left):
    """What stands at the end of the text of a run whose left box holds this."""
    return "1" if is_fall(left) else "0"


def word_at(program, spot):
    """The word at a spot of the round; end behind all of the program's words."""
    return program[spot] if spot < len(program) else "end"


def boxes_behind(word, left, right):
    """What the left and the right box hold behind a step with this word."""
    if word == "up":
        return (left + 1, right)
    if word == "down":
        return (left - 1, right)
    if word == "swap":
        return (right, left)
    if word == "add":
        return (left + right, right)
    if word == "times":
        return (left * right, right)
    return (left, right)


def words_ahead(parts):
    """How many of the first items are words of a round, which has at most 200."""
    many = 0
    while many < min(len(parts), MOST_WORDS) and parts[many] in Tongue.WORDS[:-1]:
        many += 1
    return many


def misfit_behind(behind, many):
    """The place of the first item behind so many words that cannot stand or is missing; None if all is right."""
    for place in range(len(behind)):
        if place >= MANY_BEHIND or not can_stand(behind, place, many):
            return place
    return None if len(behind) == MANY_BEHIND else len(behind)


def can_stand(behind, place, many):
    """Whether the item at this place behind so many words can stand, if those ahead of it can."""
    if place == MANY_BEHIND - 1:
        return behind[place] == fallen_sign(int(behind[3]))
    bounds = {1: (-BOUND, BOUND), 3: (-MOST_LEFT, MOST_LEFT), 4: (-BOUND, BOUND), 5: (0, many), 6: (0, None)}
    if place not in bounds:
        return behind[place] == "/"
    least, most = bounds[place]
    return is_within(integer_in(behind[place]), least, most)


def said_by(program, given, many):
    """The pairs (steps, integer) for all that the program says with so many steps."""
    return Run(program, given).go(many)


def circle_of(program, given, most):
    """The pair of the steps behind which the first standing to come again came first, and how many later it did."""
    run = Run(program, given)
    need_within(most, 1, MOST_STEPS, "most")
    first = {standing_of(run): 0}
    for step in range(1, most + 1):
        run.advance()
        standing = standing_of(run)
        if standing in first:
            return (first[standing], step - first[standing])
        first[standing] = step
    return None

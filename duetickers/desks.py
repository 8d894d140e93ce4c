"""Desks: a finder among all programs of a tongue that goes on tick by tick."""

from duetickers.checks import BOUND, integer_in, is_within, items_of, need_within
from duetickers.errors import BadText, TooMany
from duetickers.finders import MOST_TICKS, Found, begin_trials, found_at
from duetickers.puzzles import Puzzle, misfit_in, need_puzzle
from duetickers.tongues import MANY_WORDS, Tongue, need_tongue, place_of_misfit
from duetickers.wholes import pairs_in

# In the text of a desk the items of the check stand behind the eight names and a `/`.
START = 9


class Desk:
    """A finder for a puzzle and a given number, at some tick: it changes."""

    def __init__(self, tongue, puzzle, given):
        need_tongue(tongue)
        need_puzzle(puzzle, "puzzle")
        need_within(given, -BOUND, BOUND, "given")
        self.tongue = tongue
        self.puzzle = puzzle
        self.given = given
        self.tick = 0
        self.found = None
        self.trials = {}
        self.pairs = []

    def __eq__(self, other):
        if not isinstance(other, Desk) or self.tongue != other.tongue or self.puzzle != other.puzzle:
            return False
        # All else is told by how far both have gone.
        return self.given == other.given and self.tick == other.tick

    def __str__(self):
        return f"{str(self.tongue)} / {str(self.puzzle)} / {self.given} {self.tick}"

    def go(self, many):
        """Let so many ticks go by, but none behind an answer; how many went by."""
        need_within(many, 0, MOST_TICKS, "many")
        ahead = self.tick
        if ahead + many > MOST_TICKS:
            raise TooMany("ticks", MOST_TICKS)
        if self.found is not None:
            return 0
        pairs = self.pairs_by(ahead + many)[ahead:ahead + many]
        begin_trials(self.trials, pairs, self.puzzle, self.given)
        paper = found_at(self.trials, pairs, ahead)
        self.tick = paper.tick
        if isinstance(paper, Found):
            self.found = paper
        return self.tick - ahead

    def coming(self):
        """The pair (program, step) of the step that comes at the next tick; None once an answer is found."""
        if self.found is not None:
            return None
        return self.pairs_by(self.tick + 1)[self.tick]

    def pairs_by(self, tick):
        """The list of the pairs that come at the ticks 1, 2 and so on, up to this tick at least."""
        if len(self.pairs) < tick:
            # Twice as many: so who goes on tick by tick seldom waits for them to be made anew.
            many = min(2 * tick, MOST_TICKS + 1)
            self.pairs = list(pairs_in(self.tongue, many))
        return self.pairs

    @staticmethod
    def read(text):
        """The desk with this text."""
        items = items_of(text)
        end = end_of_check(items)
        at = misfit_to(items, end)
        if at is not None:
            raise BadText(0, at)
        desk = Desk(Tongue(items[:MANY_WORDS]), Puzzle(" ".join(items[START:end])), int(items[end + 1]))
        tick = int(items[end + 2])
        if desk.go(tick) < tick:
            raise BadText(0, end + 2)
        if len(items) > end + 3:
            raise BadText(0, end + 3)
        return desk


def end_of_check(items):
    """The index of the `/` behind the check in the text of a desk; the number of items if there is none."""
    end = START
    while end < len(items) and items[end] != "/":
        end += 1
    return min(end, len(items))


def misfit_to(items, end):
    """The index of the first item up to the tick that by itself cannot stand, or is missing; None if all can."""
    at = place_of_misfit(items[:MANY_WORDS])
    if at is not None:
        return at
    if items[MANY_WORDS:START] != ["/"]:
        return min(len(items), MANY_WORDS)
    if end == START:
        return START
    at = misfit_in(items[START:end])
    if at is not None:
        return START + at
    if end == len(items):
        return end
    if not is_integer_at(items, end + 1, -BOUND, BOUND):
        return end + 1
    return None if is_integer_at(items, end + 2, 0, MOST_TICKS) else end + 2


def is_integer_at(items, at, least, most):
    """Whether there is an item with this index, and it writes an integer from least to most."""
    return at < len(items) and is_within(integer_in(items[at]), least, most)

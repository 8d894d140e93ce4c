"""Puzzles: checks that tell which answers to a given number are right."""

from duetickers.checks import BOUND, integer_in, is_integer, is_within, items_of, need_within
from duetickers.errors import BadPuzzle, BadText, TooMany
from duetickers.papers import Denial, Paper

MOST_ITEMS = 40
MOST_THINGS = 20
MOST_ANSWERS = 5000
MOST_ALIKE = 20
NUMBERS = ("number", "number")
TRUTHS = ("truth", "truth")


class Puzzle:
    """A check, as a text of items that take from a pile and put on it."""

    def __init__(self, text):
        parts = items_of(text)
        place = misfit_in(parts)
        if place is not None:
            raise BadText(0, place)
        self.text = text
        self.cost = len(parts)
        # The integers are read here once, as a check is gone through for many answers.
        self.check = tuple([read_item(item) for item in parts])

    def __eq__(self, other):
        return isinstance(other, Puzzle) and self.text == other.text

    def __str__(self):
        return str(self.text)


class Same(Paper):
    """For all given numbers and answers from -most to most two puzzles tell the same."""

    def __init__(self, most):
        Paper.__init__(self, "same", most)
        self.most = self.parts[0]


class Parted(Denial):
    """For this given number this answer is right by just one of two puzzles."""

    def __init__(self, given, answer):
        Denial.__init__(self, "parted", given, answer)
        self.given, self.answer = self.parts


def need_puzzle(value, part):
    """Raise an error that names the part unless value is a Puzzle."""
    if not isinstance(value, Puzzle):
        raise BadPuzzle(part)


def read_item(item):
    """The integer that an item writes; the item itself if it writes none."""
    number = integer_in(item)
    return item if number is None else number


def kinds_of(item):
    """The kinds of things that an item takes, and the kind that it puts; None if there is no such item."""
    if item in ("+", "-", "*", "rem"):
        return (NUMBERS, "number")
    if item in ("=", "<"):
        return (NUMBERS, "truth")
    if item in ("and", "or"):
        return (TRUTHS, "truth")
    if item == "not":
        return (("truth",), "truth")
    if item in ("a", "n") or is_within(integer_in(item), -BOUND, BOUND):
        return ((), "number")
    return None


def kinds_behind(pile, item):
    """The kinds on the pile behind an item; None if the item cannot stand there."""
    kinds = kinds_of(item)
    if kinds is None:
        return None
    taken, put = kinds
    left = len(pile) - len(taken)
    if pile[left:] != taken or left >= MOST_THINGS:
        return None
    return pile[:left] + (put,)


def misfit_in(parts):
    """The place of the first item that cannot stand in a check; None if the items are a check."""
    pile = ()
    for place, item in enumerate(parts):
        pile = kinds_behind(pile, item)
        if pile is None or place >= MOST_ITEMS:
            return place
    return None if pile == ("truth",) else len(parts) - 1


def of_two(item, low, high):
    """What an item puts in the place of two things, of which high lay on top."""
    if item == "+":
        return low + high
    if item == "-":
        return low - high
    if item == "*":
        return low * high
    if item == "rem":
        return low if high == 0 else low % abs(high)
    if item == "=":
        return low == high
    if item == "<":
        return low < high
    if item == "and":
        return low and high
    return low or high


def lay(pile, item, given, answer):
    """Change the pile to what it is behind an item of a check."""
    if item == "a":
        pile.append(answer)
    elif item == "n":
        pile.append(given)
    elif is_integer(item):
        pile.append(item)
    elif item == "not":
        pile.append(not pile.pop())
    else:
        high = pile.pop()
        pile.append(of_two(item, pile.pop(), high))


def holds(puzzle, given, answer):
    """Whether the answer is right, for numbers that are known to be within their bounds."""
    pile = []
    for item in puzzle.check:
        lay(pile, item, given, answer)
    return pile[0]


def need_question(puzzle, given, answer):
    """Raise an error unless these are a Puzzle and two integers within their bounds."""
    need_puzzle(puzzle, "puzzle")
    need_within(given, -BOUND, BOUND, "given")
    need_within(answer, -BOUND, BOUND, "answer")


def is_right(puzzle, given, answer):
    """Whether the answer is right."""
    need_question(puzzle, given, answer)
    return holds(puzzle, given, answer)


def piles_of(puzzle, given, answer):
    """For each item the pile behind it, from the bottom to the top."""
    need_question(puzzle, given, answer)
    pile = []
    piles = []
    for item in puzzle.check:
        lay(pile, item, given, answer)
        piles.append(tuple(pile))
    return tuple(piles)


def right_answers(puzzle, given, least, most):
    """The right answers from least to most, ascending."""
    need_puzzle(puzzle, "puzzle")
    need_within(given, -BOUND, BOUND, "given")
    need_within(least, -BOUND, BOUND, "least")
    need_within(most, -BOUND, BOUND, "most")
    if most - least + 1 > MOST_ANSWERS:
        raise TooMany("answers", MOST_ANSWERS)
    return tuple([answer for answer in range(least, most + 1) if holds(puzzle, given, answer)])


def puzzle_of(parts):
    """The Puzzle of these items, unless they are too many."""
    text = " ".join(parts)
    if len(text.split(" ")) > MOST_ITEMS:
        raise TooMany("items", MOST_ITEMS)
    return Puzzle(text)


def both_of(one, other):
    """The Puzzle by which an answer is right if it is by both."""
    need_puzzle(one, "one")
    need_puzzle(other, "other")
    return puzzle_of([one.text, other.text, "and"])


def either_of(one, other):
    """The Puzzle by which an answer is right if it is by one at least."""
    need_puzzle(one, "one")
    need_puzzle(other, "other")
    return puzzle_of([one.text, other.text, "or"])


def turned_of(puzzle):
    """The Puzzle by which an answer is right if it is not by this one."""
    need_puzzle(puzzle, "puzzle")
    return puzzle_of([puzzle.text, "not"])


def judged_alike(one, other, most):
    """The Same if both tell the same of all numbers from -most to most; otherwise the first Parted."""
    need_puzzle(one, "one")
    need_puzzle(other, "other")
    need_within(most, 0, MOST_ALIKE, "most")
    numbers = range(-most, most + 1)
    for given in numbers:
        for answer in numbers:
            if holds(one, given, answer) != holds(other, given, answer):
                return Parted(given, answer)
    return Same(most)

"""Whether a paper of a finder is right."""

from duetickers.checks import is_integer
from duetickers.finders import Found, NotYet, find, find_among
from duetickers.papers import is_made_by
from duetickers.programs import is_program


def shows_found(tongue, puzzle, given, most, value):
    """Whether value is what find tells."""
    return is_just(value, find(tongue, puzzle, given, most))


def shows_found_among(programs, factors, puzzle, given, most, value):
    """Whether value is what find_among tells."""
    return is_just(value, find_among(programs, factors, puzzle, given, most))


def is_just(value, told):
    """Whether value is equal to the paper that is told, with parts of the same kinds."""
    if isinstance(value, Found) and is_made_by(value, "Found"):
        numbers = (value.answer, value.step, value.tick)
        return all([is_integer(number) for number in numbers]) and is_program(value.program) and value == told
    if isinstance(value, NotYet) and is_made_by(value, "NotYet"):
        return is_integer(value.tick) and value == told
    return False

"""Programs: rows of words, and their texts, lengths and factors in a tongue."""

from duetickers.checks import is_row
from duetickers.errors import BadProgram
from duetickers.names import cut_text
from duetickers.tongues import Tongue, need_tongue

MOST_WORDS = 200


def is_program(value):
    """Whether value is a list of 0 to 200 of the first seven words."""
    if not is_row(value, 0, MOST_WORDS):
        return False
    return all([isinstance(word, str) and word in Tongue.WORDS[:-1] for word in value])


def need_program(program):
    """Raise an error unless program is a program."""
    if not is_program(program):
        raise BadProgram("program")


def text_of(tongue, program):
    """The text of the program."""
    need_tongue(tongue)
    need_program(program)
    return "".join(names_in(tongue, program))


def names_in(tongue, program):
    """The names of the words of the program, in their order, and of end."""
    return [tongue.name_of(word) for word in program] + [tongue.name_of("end")]


def length_of(tongue, program):
    """How many signs the text of the program has."""
    return len(text_of(tongue, program))


def factor_of(tongue, program):
    """The factor of the program, an integer."""
    return 1 << length_of(tongue, program)


def program_in(tongue, text):
    """The program whose text this is; None if there is none, or if it has more than 200 words."""
    need_tongue(tongue)
    # The names of a tongue are always apart: so only the text can be refused here, as it should be.
    places = cut_text(tongue.names, text)
    if places is None or len(places) > MOST_WORDS + 1:
        return None
    words = [Tongue.WORDS[place] for place in places]
    if words.count("end") != 1 or words[-1] != "end":
        return None
    return tuple(words[:-1])

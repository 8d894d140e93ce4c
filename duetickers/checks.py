"""What kind of value something is: each check takes any value."""

from duetickers.errors import BadNumber, BadText

MOST_SIGNS = 60
MOST_PART = 1000000
MOST_DIGITS = 140
# How far from 0 the numbers of runs and puzzles may be.
BOUND = 10 ** 18


def is_integer(value):
    """Whether value is an integer; True and False are none."""
    return isinstance(value, int) and not isinstance(value, bool)


def is_within(value, least, most):
    """Whether value is an integer from least to most; None stands for no bound."""
    if not is_integer(value):
        return False
    return (least is None or least <= value) and (most is None or value <= most)


def is_row(value, least, most):
    """Whether value is a list or tuple of least to most items."""
    return isinstance(value, (list, tuple)) and least <= len(value) <= most


def is_row_within(value, many, least, most):
    """Whether value is a list or tuple of 1 to many integers from least to most; None stands for no bound."""
    return is_row(value, 1, many) and all([is_within(number, least, most) for number in value])


def is_signs(value, least, most):
    """Whether value is a string of least to most signs 0 and 1."""
    return isinstance(value, str) and least <= len(value) <= most and value.strip("01") == ""


def is_name(value):
    """Whether value is a text of 1 to 60 signs 0 and 1."""
    return is_signs(value, 1, MOST_SIGNS)


def is_pair(value):
    """Whether value is a list or tuple of two integers from 1 to 1,000,000."""
    return is_row(value, 2, 2) and all([is_within(part, 1, MOST_PART) for part in value])


def need_within(value, least, most, part):
    """Raise an error that names the part unless value is an integer from least to most."""
    if not is_within(value, least, most):
        raise BadNumber(part)


def items_of(text):
    """The items of a text, with single blanks between; an error for what is no string."""
    if not isinstance(text, str):
        raise BadText(0, 0)
    return text.split(" ")


def integer_in(item):
    """The integer that this item of a text writes in its one form; None if it writes none."""
    digits = item[1:] if item.startswith("-") else item
    if not 1 <= len(digits) <= MOST_DIGITS or digits.strip("0123456789") != "":
        return None
    number = int(item)
    return number if str(number) == item else None

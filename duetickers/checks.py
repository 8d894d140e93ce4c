"""What kind of value something is: each check takes any value."""

MOST_SIGNS = 60
MOST_PART = 1000000


def is_integer(value):
    """Whether value is an integer; True and False are none."""
    return isinstance(value, int) and not isinstance(value, bool)


def is_within(value, least, most):
    """Whether value is an integer from least to most; None stands for no bound."""
    if not is_integer(value):
        return False
    return (least is None or least <= value) and (most is None or value <= most)


def is_row(value, least, most):
    """Whether value is a list or tuple of least to most items."""
    return isinstance(value, (list, tuple)) and least <= len(value) <= most


def is_signs(value, least, most):
    """Whether value is a string of least to most signs 0 and 1."""
    return isinstance(value, str) and least <= len(value) <= most and value.strip("01") == ""


def is_name(value):
    """Whether value is a text of 1 to 60 signs 0 and 1."""
    return is_signs(value, 1, MOST_SIGNS)


def is_pair(value):
    """Whether value is a list or tuple of two integers from 1 to 1,000,000."""
    return is_row(value, 2, 2) and all([is_within(part, 1, MOST_PART) for part in value])

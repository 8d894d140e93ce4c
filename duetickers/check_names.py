"""Whether a paper about names is right."""

from duetickers.checks import is_integer, is_name, is_row
from duetickers.names import Crowded, Names, are_apart, need_lengths, sum_of_shares
from duetickers.papers import is_made_by


def shows_lengths(lengths, value):
    """Whether value is right Names of the lengths, or the right Crowded."""
    need_lengths(lengths)
    if isinstance(value, Names) and is_made_by(value, "Names"):
        return are_names_of(value.names, lengths)
    if isinstance(value, Crowded) and is_made_by(value, "Crowded"):
        return is_crowd_of(value.up, value.down, lengths)
    return False


def are_names_of(names, lengths):
    """Whether names are names of these lengths, in their order, that are apart."""
    if not is_row(names, len(lengths), len(lengths)) or not all([is_name(name) for name in names]):
        return False
    return [len(name) for name in names] == list(lengths) and are_apart(names)


def is_crowd_of(up, down, lengths):
    """Whether up / down is the sum of the shares, reduced, and above 1."""
    if not is_integer(up) or not is_integer(down):
        return False
    return (up, down) == sum_of_shares(lengths) and up > down

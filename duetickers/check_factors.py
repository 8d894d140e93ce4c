"""Whether a paper about factors is right."""

from duetickers.checks import is_integer, is_within
from duetickers.factors import Crowd, Kept, need_factors, share_sum, steps_due
from duetickers.papers import is_made_by

# This is 10 to the power of 300.
MOST_CROWDED = (10 ** 60) ** 5


def shows_factors(factors, value):
    """Whether value is the right Kept of the factors, or a right Crowd."""
    need_factors(factors)
    if isinstance(value, Kept) and is_made_by(value, "Kept"):
        return is_kept_sum(factors, value.up, value.down)
    if isinstance(value, Crowd) and is_made_by(value, "Crowd"):
        return is_crowd(factors, value.tick, value.many)
    return False


def is_kept_sum(factors, up, down):
    """Whether up / down is the sum of all shares, reduced, and at most 1."""
    if not is_integer(up) or not is_integer(down):
        return False
    return (up, down) == share_sum(factors) and up <= down


def is_crowd(factors, tick, many):
    """Whether just so many steps are due by the tick, more than the tick."""
    if not is_within(tick, 1, MOST_CROWDED) or not is_integer(many):
        return False
    return many == sum(steps_due(factors, tick)) and many > tick

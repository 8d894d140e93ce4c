"""Whether a paper about factors is right."""

from duetickers.checks import is_integer, is_within
from duetickers.factors import Crowd, Kept, need_factors, steps_due, sum_of_all
from duetickers.papers import is_made_by

# This is 10 to the power of 300.
MOST_CROWDED = (10 ** 60) ** 5


def shows_factors(factors, value):
    """Whether value is the right Kept of the factors, or a right Crowd."""
    need_factors(factors)
    return is_right_for(factors, 1, value)


def is_right_for(factors, hands, value):
    """Whether value is the right Kept of the factors for so many hands, or a right Crowd."""
    if isinstance(value, Kept) and is_made_by(value, "Kept"):
        return is_kept_sum(factors, hands, value.up, value.down)
    if isinstance(value, Crowd) and is_made_by(value, "Crowd"):
        return is_crowd(factors, hands, value.tick, value.many)
    return False


def is_kept_sum(factors, hands, up, down):
    """Whether up / down is the sum of all shares, reduced, and at most the number of hands."""
    if not is_integer(up) or not is_integer(down):
        return False
    return (up, down) == sum_of_all(factors) and up <= hands * down


def is_crowd(factors, hands, tick, many):
    """Whether just so many steps are due by the tick, more than the hands make."""
    if not is_within(tick, 1, MOST_CROWDED) or not is_integer(many):
        return False
    return many == sum(steps_due(factors, tick)) and many > hands * tick

"""Factors: how many steps are due by a tick, and whether there are never more than ticks."""

from duetickers.checks import is_pair, is_row, is_row_within, need_within
from duetickers.errors import BadFactor, BadNumber, TooMany
from duetickers.papers import Denial, Paper
from duetickers.ratios import common_multiple, reduced

MOST_FACTORS = 40
MOST_LENGTH = 19
MOST_TICK = 10 ** 30
MOST_SCALED = 10 ** 30


class Kept(Paper):
    """The sum of all shares, up / down, which is at most what can be kept."""

    def __init__(self, up, down):
        Paper.__init__(self, "kept", up, down)
        self.up, self.down = self.parts


class Crowd(Denial):
    """A tick by which too many steps are due, and how many are."""

    def __init__(self, tick, many):
        Denial.__init__(self, "crowd", tick, many)
        self.tick, self.many = self.parts


def are_pairs(value):
    """Whether value is a list of 1 to 40 pairs of integers from 1 to 1,000,000."""
    return is_row(value, 1, MOST_FACTORS) and all([is_pair(pair) for pair in value])


def need_factors(factors):
    """Raise an error unless factors are factors."""
    if not are_pairs(factors):
        raise BadFactor("factors")


def sum_of_all(factors):
    """The sum of the shares of any fractions above 0."""
    unit = common_multiple([up for up, down in factors])
    return reduced(sum([down * (unit // up) for up, down in factors]), unit)


def steps_due(factors, tick):
    """For each place how many steps are due by any tick."""
    return tuple([tick * down // up for up, down in factors])


def share_sum(factors):
    """The sum of all shares, a fraction."""
    need_factors(factors)
    return sum_of_all(factors)


def due_by(factors, tick):
    """For each place how many steps are due by this tick."""
    need_factors(factors)
    need_within(tick, 0, MOST_TICK, "tick")
    return steps_due(factors, tick)


def factors_of(lengths):
    """The factors 2 to the power of these lengths."""
    if not is_row_within(lengths, MOST_FACTORS, 1, MOST_LENGTH):
        raise BadNumber("lengths")
    return tuple([(1 << length, 1) for length in lengths])


def scaled(factors):
    """Each factor times the sum of all shares."""
    need_factors(factors)
    total_up, total_down = sum_of_all(factors)
    found = tuple([reduced(up * total_up, down * total_down) for up, down in factors])
    if any([max(factor) > MOST_SCALED for factor in found]):
        raise TooMany("factor", MOST_SCALED)
    return found


def judged_factors(factors):
    """The Kept of the sum of all shares; a Crowd if this is above 1."""
    need_factors(factors)
    return judged_for(factors, 1)


def judged_for(factors, hands):
    """The Kept of the sum of all shares; a Crowd if this is above so many hands, each of which makes a step a tick."""
    up, down = sum_of_all(factors)
    if up <= hands * down:
        return Kept(up, down)
    # By a tick that all ups divide nothing is rounded, so the steps due are the tick times the sum.
    tick = common_multiple([reduced(*factor)[0] for factor in factors])
    return Crowd(tick, sum(steps_due(factors, tick)))

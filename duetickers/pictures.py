"""Pictures: at which ticks steps of some factors are made, and when they are due."""

from duetickers.checks import need_within
from duetickers.dues import pairs_to
from duetickers.factors import need_factors

MOST_TICKS = 200


def ticks_picture(factors, many):
    """For each factor a string of so many signs, one for each tick."""
    need_factors(factors)
    need_within(many, 0, MOST_TICKS, "many")
    places = [place for place, step in pairs_to(factors, many)]
    return tuple([picture_of(factor, [made == place for made in places]) for place, factor in enumerate(factors)])


def picture_of(factor, made):
    """The string of a factor, if made tells for each tick whether a step of it is made."""
    up, down = factor
    # A step is due just at a tick if the tick by the factor is a whole number.
    return "".join([sign_of(is_made, tick * down % up == 0) for tick, is_made in enumerate(made, start=1)])


def sign_of(is_made, is_due):
    """The sign of a tick at which a step is made, or due."""
    if is_made:
        return "+" if is_due else "#"
    return "-" if is_due else "."

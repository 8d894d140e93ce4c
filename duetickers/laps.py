"""Laps of doubling: in each lap each place makes twice as many steps as in the one before."""

from duetickers.checks import is_row_within, need_within
from duetickers.errors import BadNumber, TooMany
from duetickers.ratios import reduced

MOST_PLACES = 40
MOST_LENGTH = 30
MOST_LAP = 10
MOST_ROW = 2000
MOST_STEP = 10 ** 9


def need_lengths(lengths):
    """Raise an error unless lengths is a list of 1 to 40 integers from 1 to 30."""
    if not is_row_within(lengths, MOST_PLACES, 1, MOST_LENGTH):
        raise BadNumber("lengths")


def steps_in(lengths, lap):
    """For each place how many steps it makes in a lap."""
    return [1 << (lap - length) if length <= lap else 0 for length in lengths]


def steps_before(lengths, lap):
    """For each place how many steps it makes in all laps ahead of this one."""
    # They are 1, 2, 4 and so on: together one less than the next one of these.
    return [max(many - 1, 0) for many in steps_in(lengths, lap)]


def lap_row(lengths, lap):
    """The places that make the steps of a lap, in order."""
    need_lengths(lengths)
    need_within(lap, 0, MOST_LAP, "lap")
    steps = steps_in(lengths, lap)
    if sum(steps) > MOST_ROW:
        raise TooMany("row", MOST_ROW)
    return tuple([place for place, many in enumerate(steps) for _ in range(many)])


def lap_tick(lengths, place, step):
    """The tick of a step, over all laps."""
    need_lengths(lengths)
    need_within(place, 0, len(lengths) - 1, "place")
    need_within(step, 1, MOST_STEP, "step")
    # In its first lap a place makes step 1, then 2 and 3, then 4 to 7, and so on.
    lap = lengths[place] + step.bit_length() - 1
    before = steps_before(lengths, lap)
    return sum(before) + sum(steps_in(lengths, lap)[:place]) + step - before[place]


def lap_factors(lengths):
    """For each place the least factor that the laps keep for it."""
    need_lengths(lengths)
    shares = [1 << (MOST_LENGTH - length) for length in lengths]
    sums = [sum(shares) + sum(shares[:place]) for place in range(len(shares))]
    return tuple([reduced(total, share) for total, share in zip(sums, shares)])

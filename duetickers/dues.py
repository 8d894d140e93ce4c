"""The order of dues of some factors: which step comes at which tick."""

from heapq import heapify, heappop, heappush

from duetickers.checks import need_within
from duetickers.factors import need_factors, sum_of_all
from duetickers.ratios import common_multiple, reduced

MOST_NUMBER = 10 ** 30
MOST_LISTED = 5000


def need_step(factors, place, step):
    """Raise an error unless these are factors, one of their places, and the number of a step."""
    need_factors(factors)
    need_within(place, 0, len(factors) - 1, "place")
    need_within(step, 1, MOST_NUMBER, "step")


def tick_among(factors, place, step):
    """The tick at which a step comes; at most 0 for the step 0."""
    own_up, own_down = factors[place]
    tick = step
    for other, (up, down) in enumerate(factors):
        ahead = step * own_up * down
        unit = own_down * up
        if other < place:
            tick += ahead // unit
        elif other > place:
            # Of those behind only steps that are due sooner come up to this one.
            tick += (ahead - 1) // unit
    return tick


def made_at(factors, tick):
    """For each place how many steps were made at the ticks up to this one."""
    total = sum_of_all(factors)
    return tuple([made_of(factors, total, place, tick) for place in range(len(factors))])


def made_of(factors, total, place, tick):
    """How many steps of a place were made at the ticks up to this one; total is the sum of all shares."""
    up, down = factors[place]
    share = total[1] * down
    unit = total[0] * up
    # The tick of a step is at most its due times the sum, and less than this by less than one for each place.
    low = tick * share // unit
    high = (tick + len(factors)) * share // unit
    while low < high:
        middle = (low + high + 1) // 2
        if tick_among(factors, place, middle) <= tick:
            low = middle
        else:
            high = middle - 1
    return low


def pairs_to(factors, many):
    """The list of the pairs that come at the ticks 1 to many, for any fractions above 0."""
    unit = common_multiple([down for up, down in factors])
    gaps = [up * (unit // down) for up, down in factors]
    coming = [(gap, place, 1) for place, gap in enumerate(gaps)]
    heapify(coming)
    pairs = []
    for _ in range(many):
        due, place, step = heappop(coming)
        pairs.append((place, step))
        heappush(coming, (due + gaps[place], place, step + 1))
    return pairs


def due_of(factors, place, step):
    """The due of a step, a fraction."""
    need_step(factors, place, step)
    up, down = factors[place]
    return reduced(step * up, down)


def tick_of(factors, place, step):
    """The tick at which a step comes."""
    need_step(factors, place, step)
    return tick_among(factors, place, step)


def pair_at(factors, tick):
    """The pair (place, step) of the step that comes at a tick."""
    need_factors(factors)
    need_within(tick, 1, MOST_NUMBER, "tick")
    made = list(enumerate(made_at(factors, tick)))
    return [(place, step) for place, step in made if tick_among(factors, place, step) == tick][0]


def steps_by(factors, tick):
    """For each place how many steps were made at the ticks up to this one."""
    need_factors(factors)
    need_within(tick, 0, MOST_NUMBER, "tick")
    return made_at(factors, tick)


def order_of(factors, many):
    """The pairs that come at the ticks 1 to many."""
    need_factors(factors)
    need_within(many, 0, MOST_LISTED, "many")
    return tuple(pairs_to(factors, many))


def first_late(factors, most):
    """The first pair of those at the ticks 1 to most that is late; None if none is."""
    need_factors(factors)
    need_within(most, 1, MOST_LISTED, "most")
    for place, (at, step) in enumerate(pairs_to(factors, most)):
        up, down = factors[at]
        if (place + 1) * down > step * up:
            return (at, step)
    return None

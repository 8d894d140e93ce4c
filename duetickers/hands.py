"""Several hands: as many steps at a tick as there are hands, no two of them of one place."""

from duetickers.check_factors import is_right_for
from duetickers.checks import is_row_within, need_within
from duetickers.errors import BadFactor, TooMany
from duetickers.factors import MOST_FACTORS, judged_for

MOST_FACTOR = 10 ** 6
MOST_HANDS = 8
MOST_TICKS = 2000
MOST_LATE = 20000


def need_hands(factors, hands):
    """Raise an error unless these are a list of 1 to 40 whole factors, and a number of hands."""
    if not is_row_within(factors, MOST_FACTORS, 1, MOST_FACTOR):
        raise BadFactor("factors")
    need_within(hands, 1, MOST_HANDS, "hands")


def as_pairs(factors):
    """The whole factors as pairs (up, down)."""
    return [(factor, 1) for factor in factors]


def judged_hands(factors, hands):
    """The Kept of the sum of all shares; a Crowd if this is more than there are hands."""
    need_hands(factors, hands)
    return judged_for(as_pairs(factors), hands)


def shows_hands(factors, hands, value):
    """Whether value is the right Kept of the factors for so many hands, or a right Crowd."""
    need_hands(factors, hands)
    return is_right_for(as_pairs(factors), hands, value)


def hands_plan(factors, hands, ticks):
    """For each tick the places whose steps are made in the plan of dues, ascending."""
    need_hands(factors, hands)
    need_within(ticks, 0, MOST_TICKS, "ticks")
    coming = list(factors)
    plan = []
    for _ in range(ticks):
        ordered = sorted([(due, place) for place, due in enumerate(coming)])
        chosen = sorted([place for due, place in ordered[:hands]])
        for place in chosen:
            coming[place] += factors[place]
        plan.append(tuple(chosen))
    return tuple(plan)


def late_in(factors, hands, ticks):
    """The pairs (place, step) that are due by this tick, and are not made by their due in the plan of dues."""
    plan = hands_plan(factors, hands, ticks)
    made = [0] * len(factors)
    late = []
    for tick, places in enumerate(plan, start=1):
        for place in places:
            made[place] += 1
            if tick > made[place] * factors[place]:
                late.append((place, made[place]))
    for place, factor in enumerate(factors):
        late.extend([(place, step) for step in range(made[place] + 1, ticks // factor + 1)])
    if len(late) > MOST_LATE:
        raise TooMany("late", MOST_LATE)
    return tuple(sorted(late))

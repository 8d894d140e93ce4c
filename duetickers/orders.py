"""Orders: rows of places that are made again and again, and the factors that they keep."""

from duetickers.checks import is_row_within, need_within
from duetickers.dues import pairs_to
from duetickers.errors import BadOrder, TooMany
from duetickers.factors import need_factors, steps_due
from duetickers.ratios import common_multiple, reduced

MOST_ROW = 2000
MOST_STEP = 10 ** 30


class Order:
    """A row of places: at each tick the next one of the row makes a step, and behind the last one the first."""

    def __init__(self, row):
        # The integers from 0 on to the greatest one all stand there if there are as many unlike ones.
        if not is_row_within(row, MOST_ROW, 0, None) or len(set(row)) != max(row) + 1:
            raise BadOrder("row")
        self.row = tuple(row)

    def __eq__(self, other):
        return isinstance(other, Order) and self.row == other.row


def need_order(order):
    """Raise an error unless order is an Order."""
    if not isinstance(order, Order):
        raise BadOrder("order")


def ticks_of_places(row):
    """For each place the list of its ticks in the first row."""
    found = [[] for _ in range(max(row) + 1)]
    for tick, place in enumerate(row, start=1):
        found[place].append(tick)
    return found


def least_kept(ticks, around):
    """The least factor kept for a place that makes steps at these ticks of a row of so many."""
    best_up, best_down = around, len(ticks)
    for step, tick in enumerate(ticks, start=1):
        if tick * best_down > best_up * step:
            best_up, best_down = tick, step
    return reduced(best_up, best_down)


def kept_by(order):
    """For each place the least factor that the order keeps for it."""
    need_order(order)
    return tuple([least_kept(ticks, len(order.row)) for ticks in ticks_of_places(order.row)])


def tick_at(order, place, step):
    """The tick of a step of a place."""
    need_order(order)
    found = ticks_of_places(order.row)
    need_within(place, 0, len(found) - 1, "place")
    need_within(step, 1, MOST_STEP, "step")
    ticks = found[place]
    rounds, at = divmod(step - 1, len(ticks))
    return rounds * len(order.row) + ticks[at]


def round_of(factors):
    """The Order whose row is all that is due by the first tick that all ups divide, in the order of dues."""
    need_factors(factors)
    around = common_multiple([reduced(*factor)[0] for factor in factors])
    many = sum(steps_due(factors, around))
    if many > MOST_ROW:
        raise TooMany("row", MOST_ROW)
    # What is due by a tick comes ahead of all else: so the first ones are just these.
    return Order([place for place, step in pairs_to(factors, many)])

"""Lots of factors that several tests use, and slow ways to what is due, by Python's own fractions."""

from fractions import Fraction
from random import Random

HALF = [(2, 1), (4, 1), (8, 2)]
ODD = [(2, 1), (3, 1), (3, 1)]
BROKEN = [(3, 2), (3, 1)]
MOST = 1000000
GREAT_KEPT = [(MOST - 7 * place, 5 + place) for place in range(40)]
GREAT_CROWDED = [(MOST - 3 * place, 41011 + place * place) for place in range(40)]


def great_lot(luck, up, down):
    """Forty factors whose parts are at most up and down."""
    return [(luck.randrange(up - 2000, up + 1), luck.randrange(1, down + 1)) for _ in range(40)]


def just_kept(luck, many):
    """So many factors whose shares sum to just 1: parts of a row of so many units."""
    units = [luck.randrange(1, 30) for _ in range(many)]
    lot = [(sum(units), unit) for unit in units]
    luck.shuffle(lot)
    return lot


def some_lots():
    """Lots of one to eight factors, kept, just kept and crowded, with pairs that are not reduced."""
    luck = Random(21)
    lots = [HALF, ODD, BROKEN, [(1, 1)], [(2, 2)], [(1, 2)], [(7, 3)], [(1, MOST)], [(MOST, 1)], [(6, 4), (12, 4)],
            [(2, 1)] * 2, [(3, 1)] * 3, [(3, 1)] * 4, [(1, 1)] * 8, [(5, 2), (5, 2), (5, 1)], [(9, 10), (10, 9)],
            [(MOST, MOST), (MOST, 1)], [(1, MOST), (MOST, 1)]]
    for many in range(1, 9):
        lots.append(just_kept(luck, many))
        for most in (4, 12, 50):
            lots.append([(luck.randrange(1, most), luck.randrange(1, most)) for _ in range(many)])
            lots.append([(luck.randrange(many, many * most), luck.randrange(1, 3)) for _ in range(many)])
    return lots


def lot_with_part(part, up):
    """A lot whose first factor, (up, 1), is scaled to a fraction with just this first part, a multiple of up."""
    # The shares of the first two sum to 1; the others are chosen, by what is left over by each of their
    # ups, so that all shares sum to (part / up) / (the product of their ups).
    ups = (39989, 39983, 39979, 39971, 39953)
    whole = 1
    for one in ups:
        whole *= one
    wanted = part // up - whole
    downs = [wanted * pow(whole // one, -1, one) % one or one for one in ups]
    missing = wanted - sum(down * (whole // one) for one, down in zip(ups, downs))
    downs[0] += missing // whole * ups[0]
    return [(up, 1), (up, up - 1)] + list(zip(ups, downs))


def slow_sum(lot):
    """The sum of all shares, as a fraction of Python."""
    return sum((Fraction(down, up) for up, down in lot), Fraction(0))


def told(fraction):
    """A fraction of Python as a pair."""
    return (fraction.numerator, fraction.denominator)


def slow_due(lot, tick):
    """For each place how many steps are due by a tick, rounded down by Python's own fractions."""
    return tuple(tick / Fraction(up, down) // 1 for up, down in lot)


def slow_order(lot, many):
    """The pairs that come at the first ticks, by one sorted list of all dues that can come by then."""
    dues = sorted((Fraction(up, down) * step, place, step)
                  for place, (up, down) in enumerate(lot) for step in range(1, many + 1))
    return tuple((place, step) for due, place, step in dues[:many])

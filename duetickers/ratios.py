"""Fractions, as pairs (up, down) of integers, reduced, down above 0."""

from math import gcd, lcm


def reduced(up, down):
    """The fraction up / down; down is above 0."""
    common = gcd(up, down)
    return (up // common, down // common)


def common_multiple(numbers):
    """The least number above 0 that each of the numbers divides."""
    multiple = 1
    for number in numbers:
        multiple = lcm(multiple, number)
    return multiple

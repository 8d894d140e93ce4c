"""Fractions, as pairs (up, down) of integers, reduced, down above 0."""

from math import gcd


def reduced(up, down):
    """The fraction up / down; down is above 0."""
    common = gcd(up, down)
    return (up // common, down // common)

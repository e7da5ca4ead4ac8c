"""Shares: exact fractions, each a tuple (top, bottom) in lowest terms, bottom 1 or more."""

from math import gcd


def share(top, bottom):
    """The share that top is of bottom: whole numbers, bottom not 0."""
    common = gcd(top, bottom)
    if bottom < 0:
        common = -common
    return (top // common, bottom // common)


def plus(one, other):
    """What two shares come to together."""
    return share(one[0] * other[1] + other[0] * one[1], one[1] * other[1])


def minus(one, other):
    """What is left of the share one when the share other is taken from it."""
    return share(one[0] * other[1] - other[0] * one[1], one[1] * other[1])


def times(one, other):
    """The share one, as often as the share other tells."""
    return share(one[0] * other[0], one[1] * other[1])

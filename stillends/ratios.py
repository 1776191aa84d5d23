"""Ratios: pairs of a top, a number, and a bottom of at least 1, in lowest terms."""

from math import gcd


def lowest(top, bottom):
    """The ratio in lowest terms, (0, 1) for 0."""
    common = gcd(top, bottom)
    return (top // common, bottom // common)


def times(ratio, top, bottom):
    """The ratio multiplied by top and divided by bottom."""
    return lowest(ratio[0] * top, ratio[1] * bottom)


def plus(ratio, other):
    """The sum of two ratios."""
    return lowest(ratio[0] * other[1] + other[0] * ratio[1], ratio[1] * other[1])


def apart(ratio, other):
    """The greater one of two ratios less the smaller one."""
    return lowest(abs(ratio[0] * other[1] - other[0] * ratio[1]), ratio[1] * other[1])

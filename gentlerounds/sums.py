"""Sums of fractions, and which of two is the greater number."""

from math import gcd


def lowest(top, bottom):
    """Return the fraction of two whole numbers, the second one above 0."""
    shared = gcd(top, bottom)
    return (top // shared, bottom // shared)


def plus(one, other):
    """Return the sum of two fractions."""
    return lowest(one[0] * other[1] + other[0] * one[1], one[1] * other[1])


def minus(one, other):
    """Return the first fraction less the other one."""
    return plus(one, (-other[0], other[1]))


def is_up_to(one, other):
    """Tell whether the first fraction is not above the other one."""
    return one[0] * other[1] <= other[0] * one[1]

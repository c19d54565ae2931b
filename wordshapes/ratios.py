"""Fractions: pairs (n, d) of integers, d above 0, without a common divisor above 1."""

from math import gcd

from wordshapes.checks import is_integer

NOTHING = (0, 1)


def is_fraction(value):
    """Whether it is a fraction."""
    if not isinstance(value, tuple) or len(value) != 2 or not all([is_integer(number) for number in value]):
        return False
    return value[1] > 0 and gcd(value[0], value[1]) == 1


def fraction_of(upper, lower):
    """The fraction that two integers make, the lower one being above 0."""
    common = gcd(upper, lower)
    return upper // common, lower // common


def multiplied(fraction, other):
    """The product of two fractions."""
    return fraction_of(fraction[0] * other[0], fraction[1] * other[1])


def added(fraction, other):
    """The sum of two fractions."""
    return fraction_of(fraction[0] * other[1] + other[0] * fraction[1], fraction[1] * other[1])


def total_of(fractions):
    """The sum of any number of fractions."""
    total = NOTHING
    for fraction in fractions:
        total = added(total, fraction)
    return total

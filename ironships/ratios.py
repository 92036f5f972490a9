"""Arithmetic of fractions: reduced pairs (n, m) of whole numbers, m above 0. Nothing is checked here."""

from math import gcd, lcm

NOUGHT = (0, 1)
ONE = (1, 1)
HALF = (1, 2)


def is_whole(value):
    """Whether a value, whatever it is, is a whole number: an int other than True and False."""
    return isinstance(value, int) and not isinstance(value, bool)


def reduced(top, bottom):
    """The fraction top / bottom of two whole numbers, bottom other than 0."""
    common = gcd(top, bottom)
    if bottom < 0:
        common = -common
    return (top // common, bottom // common)


def plus(fraction, other):
    """The sum of two fractions."""
    return reduced(fraction[0] * other[1] + other[0] * fraction[1], fraction[1] * other[1])


def negative(fraction):
    """The fraction with the other sign."""
    return (-fraction[0], fraction[1])


def minus(fraction, other):
    """The first fraction less the other one."""
    return plus(fraction, negative(other))


def times(fraction, other):
    """The product of two fractions."""
    return reduced(fraction[0] * other[0], fraction[1] * other[1])


def over(fraction, other):
    """The first fraction over the other one, which is not 0."""
    return reduced(fraction[0] * other[1], fraction[1] * other[0])


def dot(fractions, others):
    """The sum of the products of the fractions in the same places of two rows."""
    total = NOUGHT
    for fraction, other in zip(fractions, others):
        total = plus(total, times(fraction, other))
    return total


def common_bottom(fractions):
    """The least whole number above 0 that makes all of the fractions whole."""
    bottom = 1
    for fraction in fractions:
        bottom = lcm(bottom, fraction[1])
    return bottom


def scaled(fractions, scale):
    """The fractions times a whole number that makes all of them whole."""
    return [top * (scale // bottom) for top, bottom in fractions]


def sign_of(fraction):
    """-1, 0 or 1 as the fraction is below, equal to, above 0."""
    return whole_sign(fraction[0])


def whole_sign(number):
    """-1, 0 or 1 as the whole number is below, equal to, above 0."""
    if number == 0:
        return 0
    return 1 if number > 0 else -1

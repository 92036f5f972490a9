"""Fractions and surds: what they are, how they compare, and where they lie."""

from math import gcd, isqrt

from ironships.errors import HighBelowLow, InvalidFraction, InvalidNumber, InvalidSurd
from ironships.ratios import NOUGHT, is_whole, minus, plus, sign_of, times, whole_sign

MOST_MANY = 1000000000000


def is_fraction(value):
    """Whether a value, whatever it is, is a fraction: a reduced pair of whole numbers, the second above 0."""
    if not isinstance(value, tuple) or len(value) != 2:
        return False
    top, bottom = value
    return is_whole(top) and is_whole(bottom) and bottom > 0 and gcd(top, bottom) == 1


def is_surd(value):
    """Whether a value, whatever it is, is a surd: a triple (PART, E, SQUARE)."""
    if not isinstance(value, tuple) or len(value) != 3:
        return False
    part, sign, square = value
    if not is_fraction(part) or not is_whole(sign) or not is_fraction(square):
        return False
    if sign == 0:
        return square == NOUGHT
    return sign in (-1, 1) and sign_of(square) > 0 and _root_of(square) is None


def surd_of(part, factor, fraction):
    """The surd of part + factor * root(fraction)."""
    check_fraction(part)
    check_fraction(factor)
    check_fraction(fraction)
    if sign_of(fraction) < 0:
        raise InvalidFraction(fraction)
    sign = sign_of(factor)
    square = times(times(factor, factor), fraction)
    root = _root_of(square)
    if root is None:
        return (part, sign, square)
    return (plus(part, (sign * root[0], root[1])), 0, NOUGHT)


def compare(surd, other):
    """-1, 0 or 1 as the first surd is less than, equal to, greater than the other one."""
    check_surd(surd)
    check_surd(other)
    part, sign, square = surd
    other_part, other_sign, other_square = other
    gap = minus(part, other_part)
    # With its sign kept a number's square grows as the number does, so these tell which root is greater.
    root_gap = minus((sign * square[0], square[1]), (other_sign * other_square[0], other_square[1]))
    if sign_of(gap) * sign_of(root_gap) >= 0:
        return whole_sign(sign_of(gap) + sign_of(root_gap))
    # One gap is above 0, the other below: the one with the greater square wins. That of the roots is
    # square + other_square - 2 * sign * other_sign * root(square * other_square).
    rest = minus(times(gap, gap), plus(square, other_square))
    mixed_square = times((4, 1), times(square, other_square))
    return sign_of(gap) * _sign_with_root(rest, sign * other_sign, mixed_square)


def near(surd, many):
    """The greatest whole number n such that n / many is not above the surd, and whether it is the surd."""
    check_surd(surd)
    check_many(many)
    (top, bottom), sign, (square_top, square_bottom) = surd
    # many times the surd is (whole + sign * root(square)) / scale.
    scale = bottom * square_bottom
    whole = many * top * square_bottom
    if sign == 0:
        return (whole // scale, whole % scale == 0)
    root = isqrt(many * many * bottom * bottom * square_top * square_bottom)
    # The root is no whole number, so the next whole number below it with a minus sign is one further.
    below = root if sign > 0 else -root - 1
    return ((whole + below) // scale, False)


def is_row(value, many):
    """Whether a value, whatever it is, is a tuple of so many fractions."""
    return isinstance(value, tuple) and len(value) == many and all([is_fraction(number) for number in value])


def are_bounds(low, high):
    """Whether two values, whatever they are, are fractions, the high one not below the low one."""
    return is_fraction(low) and is_fraction(high) and sign_of(minus(high, low)) >= 0


def check_fraction(given):
    """Refuses what is no fraction."""
    if not is_fraction(given):
        raise InvalidFraction(given)


def check_bounds(low, high):
    """Refuses what are no two fractions, or a high below the low."""
    check_fraction(low)
    check_fraction(high)
    if sign_of(minus(high, low)) < 0:
        raise HighBelowLow(high)


def check_surd(given):
    """Refuses what is no surd."""
    if not is_surd(given):
        raise InvalidSurd(given)


def check_many(given):
    """Refuses what is no whole number from 1 to 10 ** 12."""
    if not is_whole(given) or given < 1 or given > MOST_MANY:
        raise InvalidNumber(given)


def _root_of(square):
    """The fraction from 0 on of which a fraction from 0 on is the square; None if it is that of none."""
    top, bottom = isqrt(square[0]), isqrt(square[1])
    if top * top != square[0] or bottom * bottom != square[1]:
        return None
    return (top, bottom)


def _sign_with_root(fraction, sign, square):
    """The sign of fraction + sign * root(square), the square being a fraction from 0 on."""
    root_sign = sign * sign_of(square)
    if sign_of(fraction) * root_sign >= 0:
        return whole_sign(sign_of(fraction) + root_sign)
    return sign_of(fraction) * sign_of(minus(times(fraction, fraction), square))

"""Headings and courses: angles clockwise from north, told by fractions or by whole numbers."""

from math import gcd, isqrt

from ironships.errors import InvalidCourse, InvalidHeading
from ironships.numbers import check_fraction, is_row
from ironships.ratios import ONE, dot, is_whole, minus, negative, over, plus, reduced, sign_of, times, whole_sign

SOUTH = ((-1, 1), (0, 1))
# Where the quarters begin, in order: north, east, south, west.
BEGINS = (((1, 1), (0, 1)), ((0, 1), (1, 1)), ((-1, 1), (0, 1)), ((0, 1), (-1, 1)))


def is_heading(value):
    """Whether a value, whatever it is, is a heading."""
    return is_row(value, 2) and dot(value, value) == ONE


def is_course(value):
    """Whether a value, whatever it is, is a course: a reduced pair of whole numbers, not both 0."""
    if not isinstance(value, tuple) or len(value) != 2:
        return False
    return is_whole(value[0]) and is_whole(value[1]) and gcd(value[0], value[1]) == 1


def heading_of(half):
    """The heading with this half tangent, south for None."""
    if half is None:
        return SOUTH
    check_fraction(half)
    square = times(half, half)
    scale = plus(ONE, square)
    return (over(minus(ONE, square), scale), over(plus(half, half), scale))


def half_of(heading):
    """The half tangent of a heading, None for south."""
    check_heading(heading)
    if heading == SOUTH:
        return None
    cosine, sine = heading
    return over(sine, plus(ONE, cosine))


def turned(heading, other):
    """The heading at the sum of both angles."""
    check_heading(heading)
    check_heading(other)
    cosine, sine = heading
    return (dot((cosine, negative(sine)), other), dot((sine, cosine), other))


def mirrored(heading):
    """The heading with the opposite sine."""
    check_heading(heading)
    return (heading[0], negative(heading[1]))


def quarter_of(heading):
    """The quarter of a heading, 0 to 3."""
    check_heading(heading)
    cosine, sine = sign_of(heading[0]), sign_of(heading[1])
    if cosine > 0 and sine >= 0:
        return 0
    if sine > 0:
        return 1
    return 2 if cosine < 0 else 3


def order_of(heading, other):
    """-1, 0 or 1 as the first heading comes before the other one in order, is it, comes behind it."""
    gap = quarter_of(heading) - quarter_of(other)
    if gap != 0:
        return whole_sign(gap)
    # Within a quarter the sine of the angle between both has the sign of this angle.
    return sign_of(minus(times(heading[1], other[0]), times(heading[0], other[1])))


def course_of(heading):
    """The course of a heading."""
    check_heading(heading)
    return course_along(heading)


def heading_along(course):
    """The heading whose cosine and sine go along a course; None if there is none."""
    check_course(course)
    p, q = course
    size = isqrt(p * p + q * q)
    if size * size != p * p + q * q:
        return None
    return (reduced(p, size), reduced(q, size))


def course_along(pair):
    """The course that goes along two fractions, not both 0."""
    (top, bottom), (other_top, other_bottom) = pair
    p, q = top * other_bottom, other_top * bottom
    common = gcd(p, q)
    return (p // common, q // common)


def check_heading(given):
    """Refuses what is no heading."""
    if not is_heading(given):
        raise InvalidHeading(given)


def check_course(given):
    """Refuses what is no course."""
    if not is_course(given):
        raise InvalidCourse(given)

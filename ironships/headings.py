"""Headings: pairs of fractions, the cosine and the sine of an angle clockwise from north."""

from ironships.errors import InvalidHeading
from ironships.numbers import is_fraction
from ironships.ratios import ONE, dot


def is_heading(value):
    """Whether a value, whatever it is, is a heading."""
    if not isinstance(value, tuple) or len(value) != 2:
        return False
    return is_fraction(value[0]) and is_fraction(value[1]) and dot(value, value) == ONE


def check_heading(given):
    """Refuses what is no heading."""
    if not is_heading(given):
        raise InvalidHeading(given)

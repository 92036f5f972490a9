"""Bounds of the deviation and of the force for all headings at once."""

from ironships.errors import InvalidForce, NotAhead
from ironships.irons import check_five
from ironships.numbers import check_bounds, check_many, is_fraction
from ironships.pairs import size_polynomials
from ironships.ratios import negative, reduced, sign_of
from ironships.roots import heading_with_sign
from ironships.waves import (
    NOUGHT_WAVE, east_wave, force_wave, heading_with, is_always_above, is_never_below, mixed, north_wave,
    signs_at_zeros,
)

ONE_WAVE = ((1, 1), (0, 1), (0, 1), (0, 1), (0, 1))


def is_ahead(five):
    """Whether the force to the north is above 0 at all headings."""
    return is_always_above(north_wave(five))


def is_within(five, low, high):
    """Whether at all headings the force to the north is above 0 and the tangent from low up to high."""
    check_five(five)
    check_bounds(low, high)
    return is_ahead(five) and all([is_never_below(wave) for wave in _bound_waves(five, low, high)])


def breaking_heading(five, low, high):
    """A heading at which the force to the north is not above 0, or the tangent outside; None if there is none."""
    check_five(five)
    check_bounds(low, high)
    north = north_wave(five)
    for wave in [north] + _bound_waves(five, low, high):
        heading = heading_with(wave, -1)
        if heading is not None:
            return heading
    return heading_with(north, 0)


def greatest_tangent(five, many):
    """The greatest whole number n with n / many not above the greatest tangent."""
    north, west = _checked_ahead(five, many)
    # A number is above the greatest tangent exactly if its wave is above 0 at all headings.
    return _greatest(lambda n: not is_always_above(mixed(west, north, reduced(n, many))))


def least_tangent(five, many):
    """The greatest whole number n with n / many not above the least tangent."""
    north, west = _checked_ahead(five, many)
    east = _opposite(west)
    return _greatest(lambda n: is_never_below(mixed(east, north, reduced(-n, many))))


def is_as_strong(five, force):
    """Whether the force square is at least this at all headings."""
    return is_never_below(_force_beyond(five, force))


def weak_heading(five, force):
    """A heading at which the force square is less than this; None if there is none."""
    return heading_with(_force_beyond(five, force), -1)


def least_force(five, many):
    """The greatest whole number n with n / many not above the least force square."""
    wave = force_wave(five)
    check_many(many)
    return _greatest(lambda n: is_never_below(mixed(wave, ONE_WAVE, reduced(-n, many))))


def greatest_force(five, many):
    """The greatest whole number n with n / many not above the greatest force square."""
    opposite = _opposite(force_wave(five))
    check_many(many)
    return _greatest(lambda n: not is_always_above(mixed(opposite, ONE_WAVE, reduced(n, many))))


def zero_words(five):
    """The words of the headings without a part to the east, in order; the text all if no heading has one."""
    east = east_wave(five)
    if east == NOUGHT_WAVE:
        return "all"
    words = ("dead", "plain", "against")
    # The sign -1 is the index of the last word.
    return tuple([words[sign] for sign in signs_at_zeros(east, north_wave(five))])


def plain_many(five):
    """The number of plain headings, the text all if all are."""
    words = zero_words(five)
    return words if words == "all" else words.count("plain")


def deviates_less(five, other):
    """Whether at all headings the size of the first one's tangent is at most that of the other one."""
    # Where it is not so, it is not so at a heading told by fractions.
    return greater_heading(five, other) is None


def greater_heading(five, other):
    """A heading at which the size of the first one's tangent is greater; None if there is none."""
    check_five(five)
    check_five(other)
    if not is_ahead(five) or not is_ahead(other):
        raise NotAhead()
    return heading_with_sign(size_polynomials(five, other), -1)


def is_force(value):
    """Whether a value, whatever it is, is a fraction above 0."""
    return is_fraction(value) and sign_of(value) > 0


def _bound_waves(five, low, high):
    """The waves that are nowhere below 0 if no tangent is below low, and none above high."""
    north, east = north_wave(five), east_wave(five)
    return [mixed(east, north, negative(low)), mixed(_opposite(east), north, high)]


def _checked_ahead(five, many):
    """The force to the north and to the west of a five that is ahead."""
    north, west = north_wave(five), _opposite(east_wave(five))
    check_many(many)
    if not is_always_above(north):
        raise NotAhead()
    return (north, west)


def _force_beyond(five, force):
    """The wave of the force square, less a force."""
    wave = force_wave(five)
    if not is_force(force):
        raise InvalidForce(force)
    return mixed(wave, ONE_WAVE, negative(force))


def _opposite(wave):
    """The wave with all signs turned."""
    return tuple([negative(number) for number in wave])


def _greatest(holds):
    """The greatest whole number for which this holds, as it does for all below one and for none above it."""
    low, high = -1, 1
    while not holds(low):
        low, high = 2 * low, low
    while holds(high):
        low, high = high, 2 * high
    while high - low > 1:
        middle = (low + high) // 2
        if holds(middle):
            low = middle
        else:
            high = middle
    return low

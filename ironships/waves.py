"""Waves: sums of a number and the cosines and sines of an angle and of its double."""

from math import lcm

from ironships.errors import InvalidWave
from ironships.numbers import check_fraction, is_fraction
from ironships.polynomials import polynomial_of
from ironships.ratios import plus, times

NOUGHT_WAVE = ((0, 1), (0, 1), (0, 1), (0, 1), (0, 1))


def is_wave(value):
    """Whether a value, whatever it is, is a wave: a tuple of five fractions."""
    return isinstance(value, tuple) and len(value) == 5 and all([is_fraction(number) for number in value])


def mixed(wave, other, fraction):
    """The wave plus so many times the other one."""
    check_wave(wave)
    check_wave(other)
    check_fraction(fraction)
    return tuple([plus(number, times(fraction, added)) for number, added in zip(wave, other)])


def half_polynomial(wave):
    """The polynomial in the half tangent u of the angle with the signs of the wave at all angles but a half turn.

    It is the wave times (1 + u u) (1 + u u) and a whole number above 0."""
    scale = 1
    for _, bottom in wave:
        scale = lcm(scale, bottom)
    k0, k1, k2, k3, k4 = [top * (scale // bottom) for top, bottom in wave]
    return polynomial_of([k0 + k1 + k3, 2 * k2 + 4 * k4, 2 * k0 - 6 * k3, 2 * k2 - 4 * k4, k0 - k1 + k3])


def check_wave(given):
    """Refuses what is no wave."""
    if not is_wave(given):
        raise InvalidWave(given)

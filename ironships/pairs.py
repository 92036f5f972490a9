"""Two fives beside one another: how their forces lie to each other at all headings."""

from ironships.headings import BEGINS
from ironships.polynomials import multiplied, sum_of_products
from ironships.ratios import NOUGHT, ONE, dot, minus, negative, times
from ironships.waves import (
    NOUGHT_WAVE, east_wave, half_numbers, half_polynomial, mixed, north_wave, turned_wave, whole_numbers,
)


def facing_waves(five, other):
    """The waves K K' + L L' and K L' - L K': the sizes of both forces times cosine and sine of the angle between."""
    along, across = NOUGHT_WAVE, NOUGHT_WAVE
    for at, term in enumerate(_terms(five)):
        for other_at, other_term in enumerate(_terms(other)):
            # The conjugate of the one term times the other one.
            even = dot(term, other_term)
            odd = minus(times(term[0], other_term[1]), times(term[1], other_term[0]))
            along = mixed(along, _power_wave(even, negative(odd), other_at - at), ONE)
            across = mixed(across, _power_wave(odd, even, other_at - at), ONE)
    return (along, across)


def size_polynomials(five, other):
    """For each quarter a polynomial in the half behind its begin, with the signs of K K L' L' - L L K' K' there."""
    across = facing_waves(five, other)[1]
    polynomials = []
    for begin in BEGINS:
        north, east = _force_numbers(five, begin)
        other_north, other_east = _force_numbers(other, begin)
        mirrored = sum_of_products([(north, other_east), (east, other_north)])
        polynomials.append(multiplied(half_polynomial(turned_wave(across, begin)), mirrored))
    return polynomials


def _terms(five):
    """The complex numbers that stand in the force with the powers of the heading's own, from 0 to 2."""
    a, b, c, d, e = five
    return ((ONE, a), (b, c), (d, e))


def _power_wave(cosines, sines, power):
    """The wave of so many times cosine and sine of the angle taken power times, -2 to 2."""
    if power == 0:
        return (cosines, NOUGHT, NOUGHT, NOUGHT, NOUGHT)
    if power < 0:
        sines = negative(sines)
    if abs(power) == 1:
        return (NOUGHT, cosines, sines, NOUGHT, NOUGHT)
    return (NOUGHT, NOUGHT, NOUGHT, cosines, sines)


def _force_numbers(five, begin):
    """The parts of the force to the north and to the east behind a heading, as numbers of polynomials, in one scale."""
    numbers = whole_numbers(turned_wave(north_wave(five), begin) + turned_wave(east_wave(five), begin))
    return half_numbers(numbers[:5]), half_numbers(numbers[5:])

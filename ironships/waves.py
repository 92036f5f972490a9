"""Waves: sums of a number and the cosines and sines of an angle and of its double, and where they are 0."""

from ironships.errors import InvalidIndex, InvalidNumber, InvalidWave
from ironships.headings import BEGINS, SOUTH, check_heading
from ironships.irons import check_five
from ironships.numbers import check_fraction, check_many, is_row
from ironships.polynomials import is_above, is_nowhere_below, polynomial_of, sign_at
from ironships.ratios import NOUGHT, ONE, common_bottom, dot, is_whole, minus, negative, plus, scaled, times
from ironships.roots import Roots, heading_at_root, heading_with_sign

NOUGHT_WAVE = ((0, 1), (0, 1), (0, 1), (0, 1), (0, 1))
NORTH = ((1, 1), (0, 1))


def is_wave(value):
    """Whether a value, whatever it is, is a wave: a tuple of five fractions."""
    return is_row(value, 5)


def wave_at(wave, heading):
    """What the wave is worth at the heading."""
    check_wave(wave)
    check_heading(heading)
    return dot(wave, (ONE,) + heading + _doubled(heading))


def mixed(wave, other, fraction):
    """The wave plus so many times the other one."""
    check_wave(wave)
    check_wave(other)
    check_fraction(fraction)
    return tuple([plus(number, times(fraction, added)) for number, added in zip(wave, other)])


def turned_wave(wave, heading):
    """The wave that is worth at each heading what this one is worth there turned by the heading."""
    check_wave(wave)
    check_heading(heading)
    single, double = _turned_pair(wave[1:3], heading), _turned_pair(wave[3:], _doubled(heading))
    return wave[:1] + single + double


def zeros_of(wave):
    """The number of zeros of a wave, the text all for the nought wave."""
    check_wave(wave)
    if wave == NOUGHT_WAVE:
        return "all"
    return len(_zeros(wave))


def wave_row(wave):
    """The signs of a wave behind each of its zeros in order; its one sign if it has none."""
    check_wave(wave)
    if wave == NOUGHT_WAVE:
        return (0,)
    polynomials = quarter_polynomials(wave)
    row = [sign_at(polynomials[quarter], roots.behind(index)) for quarter, roots, index in _zeros(wave)]
    return tuple(row) if row else (sign_at(polynomials[0], NOUGHT),)


def zero_near(wave, index, many):
    """The quarter of a zero, the greatest whole number n with n / many not above its rest, whether it is its rest."""
    check_wave(wave)
    zeros = [] if wave == NOUGHT_WAVE else _zeros(wave)
    if not is_whole(index) or index < 0 or index >= len(zeros):
        raise InvalidIndex(index)
    check_many(many)
    quarter, roots, place = zeros[index]
    return (quarter,) + roots.near(place, many)


def heading_with(wave, sign):
    """A heading at which the wave has this sign; None if there is none told by fractions."""
    check_wave(wave)
    if not is_whole(sign) or abs(sign) > 1:
        raise InvalidNumber(sign)
    if wave == NOUGHT_WAVE:
        return NORTH if sign == 0 else None
    if sign == 0:
        return heading_at_root(quarter_polynomials(wave))
    return heading_with_sign(quarter_polynomials(wave), sign)


def north_wave(five):
    """The force to the north of a five."""
    check_five(five)
    _, b, c, d, e = five
    return (ONE, b, negative(c), d, negative(e))


def east_wave(five):
    """The force to the east of a five."""
    check_five(five)
    a, b, c, d, e = five
    return (a, c, b, e, d)


def force_wave(five):
    """The square of the force of a five."""
    check_five(five)
    a, b, c, d, e = five
    numbers = (
        plus(ONE, dot(five, five)),
        dot((ONE, a, d, e), (b, c, b, c)),
        dot((a, negative(ONE), d, negative(e)), (b, c, c, b)),
        plus(d, times(a, e)),
        minus(times(a, d), e),
    )
    return numbers[:1] + tuple([plus(number, number) for number in numbers[1:]])


def is_always_above(wave):
    """Whether a wave is above 0 at all headings."""
    return all([is_above(polynomial, negative(ONE), ONE) for polynomial in _half_polynomials(wave)])


def is_never_below(wave):
    """Whether a wave is nowhere below 0."""
    return all([is_nowhere_below(polynomial, negative(ONE), ONE) for polynomial in _half_polynomials(wave)])


def signs_at_zeros(wave, other):
    """The signs of another wave at the zeros of a wave, which is not the nought wave, in order."""
    polynomials = quarter_polynomials(other)
    return [roots.sign_there(index, polynomials[quarter]) for quarter, roots, index in _zeros(wave)]


def quarter_polynomials(wave):
    """For each quarter a polynomial in the half behind its begin, with the signs of the wave there."""
    return [half_polynomial(turned_wave(wave, begin)) for begin in BEGINS]


def half_polynomial(wave):
    """The polynomial in the half tangent u of the angle with the signs of the wave at all angles but a half turn.

    It is the wave times (1 + u u) (1 + u u) and a number above 0."""
    return polynomial_of(half_numbers(whole_numbers(wave)))


def half_numbers(wave):
    """The numbers, from the constant one on, of (1 + u u) (1 + u u) times a wave of whole numbers."""
    k0, k1, k2, k3, k4 = wave
    return [k0 + k1 + k3, 2 * k2 + 4 * k4, 2 * k0 - 6 * k3, 2 * k2 - 4 * k4, k0 - k1 + k3]


def whole_numbers(fractions):
    """The fractions times the least number above 0 that makes all of them whole."""
    return scaled(fractions, common_bottom(fractions))


def check_wave(given):
    """Refuses what is no wave."""
    if not is_wave(given):
        raise InvalidWave(given)


def _doubled(heading):
    """The heading at the double of the angle."""
    cosine, sine = heading
    return (minus(times(cosine, cosine), times(sine, sine)), times((2, 1), times(cosine, sine)))


def _turned_pair(pair, heading):
    """The numbers of a cosine and a sine whose angle grows by that of the heading."""
    cosine, sine = heading
    return (dot((cosine, sine), pair), dot((negative(sine), cosine), pair))


def _half_polynomials(wave):
    """The polynomials in the half behind north and behind south: each from -1 to 1 tells of half of the headings."""
    return [half_polynomial(wave), half_polynomial(turned_wave(wave, SOUTH))]


def _zeros(wave):
    """For each zero of a wave, which is not the nought wave, in order: its quarter, the roots there and its index."""
    zeros = []
    for quarter, polynomial in enumerate(quarter_polynomials(wave)):
        roots = Roots(polynomial)
        zeros.extend([(quarter, roots, index) for index in range(roots.many)])
    return zeros

"""The compass of a ship that heels, at one heading, for all heels up to a bound."""

from ironships.errors import InvalidFraction, TooMuchIron
from ironships.headings import check_heading
from ironships.irons import check_iron, check_place, is_iron
from ironships.numbers import check_bounds, is_fraction
from ironships.polynomials import is_above, is_nowhere_below
from ironships.ratios import HALF, NOUGHT, ONE, dot, minus, negative, over, plus, sign_of, times
from ironships.waves import NOUGHT_WAVE, half_polynomial, mixed


def heeled(iron, half):
    """The iron that does in the upright ship what this one does in the ship that heels by the half."""
    check_iron(iron)
    if not is_fraction(half) or abs(half[0]) >= half[1]:
        raise InvalidFraction(half)
    square = times(half, half)
    scale = plus(ONE, square)
    level, lean = over(minus(ONE, square), scale), over(plus(half, half), scale)
    fore, side, down = [_leant_row(row, level, lean) for row in iron]
    leant = (fore, _mixed_row(side, down, level, negative(lean)), _mixed_row(side, down, lean, level))
    # Three rows of fractions it is in any case; it can only lack the strength.
    if not is_iron(leant):
        raise TooMuchIron()
    return leant


def heel_waves(iron, place, heading):
    """The north part and the east part of the field at the compass, two waves in the heel's angle."""
    check_iron(iron)
    check_place(place)
    check_heading(heading)
    force, down = place
    cosine, sine = heading
    field = (times(force, cosine), negative(times(force, sine)), down)
    parts = list(zip(_fore_wave(iron, field), _level_wave(iron, field)))
    north = tuple([dot((cosine, negative(sine)), pair) for pair in parts])
    east = tuple([dot((sine, cosine), pair) for pair in parts])
    return (north, east)


def is_within_heels(iron, place, heading, half, low, high):
    """Whether at all heels up to the half the north part is above 0 and the tangent from low up to high."""
    north, east = heel_waves(iron, place, heading)
    _check_stretch(half)
    check_bounds(low, high)
    west = tuple([negative(number) for number in east])
    above_low = mixed(east, north, negative(low))
    below_high = mixed(west, north, high)
    return _stays_above(north, half) and _never_falls_below(above_low, half) and _never_falls_below(below_high, half)


def is_still(iron, place, heading, half):
    """Whether at all heels up to the half the north part is above 0 and the east part 0."""
    north, east = heel_waves(iron, place, heading)
    _check_stretch(half)
    return east == NOUGHT_WAVE and _stays_above(north, half)


def heel_rate(iron, place, heading):
    """What the tangent of the deviation grows by for a small heel, over its angle; None for no north part."""
    north, east = heel_waves(iron, place, heading)
    upright = _upright(north)
    if upright == NOUGHT:
        return None
    return over(_growth(north, east), times(upright, upright))


def righting_magnet(iron, place, heading):
    """The last number that makes the heel rate 0 in the place of the iron's own; None if there is no such one."""
    north, east = heel_waves(iron, place, heading)
    fore = dot(heading, (_upright(north), _upright(east)))
    # The last number stands in the growth times the fore part, with a minus sign, and nowhere else in the rate.
    if _upright(north) == NOUGHT or fore == NOUGHT:
        return None
    return plus(iron[2][3], over(_growth(north, east), fore))


def is_stretch(value):
    """Whether a value, whatever it is, is a fraction above 0 and below 1: the half of the greatest heel."""
    return is_fraction(value) and sign_of(value) > 0 and value[0] < value[1]


def _leant_row(row, level, lean):
    """The row of an iron for a field told as the upright ship sees it."""
    ahead, aside, down, hard = row
    return (ahead, dot((level, negative(lean)), (aside, down)), dot((lean, level), (aside, down)), hard)


def _mixed_row(row, other, factor, other_factor):
    """So many times a row and so many times the other one."""
    return tuple([dot((factor, other_factor), pair) for pair in zip(row, other)])


def _fore_wave(iron, field):
    """The fore part of the field at the compass, a wave in the heel's angle."""
    ahead, aside, down = field
    a, b, c, hard = iron[0]
    steady = plus(ahead, plus(times(a, ahead), hard))
    return (steady, dot((b, c), (aside, down)), dot((b, c), (down, negative(aside))), NOUGHT, NOUGHT)


def _level_wave(iron, field):
    """The level part to starboard of the field at the compass, a wave in the heel's angle."""
    ahead, aside, down = field
    d, e, f, hard = iron[1]
    g, j, k, upright = iron[2]
    # What stands with the cosine's square, the sine's square, and the product of both, as the point on it tells.
    cosines = dot((e, f), (aside, down))
    sines = minus(times(k, aside), times(j, down))
    products = minus(times(minus(e, k), down), times(plus(f, j), aside))
    return (
        plus(aside, times(HALF, plus(cosines, sines))),
        plus(times(d, ahead), hard),
        negative(plus(times(g, ahead), upright)),
        times(HALF, minus(cosines, sines)),
        times(HALF, products),
    )


def _upright(wave):
    """What a heel wave is worth in the upright ship."""
    return plus(wave[0], plus(wave[1], wave[3]))


def _slope(wave):
    """What a heel wave grows by at a small heel, over its angle."""
    return plus(wave[2], plus(wave[4], wave[4]))


def _growth(north, east):
    """The heel rate times the square of the upright ship's north part."""
    return minus(times(_upright(north), _slope(east)), times(_upright(east), _slope(north)))


def _stays_above(wave, half):
    """Whether a heel wave is above 0 at all heels up to the half, to either side."""
    return is_above(half_polynomial(wave), negative(half), half)


def _never_falls_below(wave, half):
    """Whether a heel wave is nowhere below 0 at the heels up to the half, to either side."""
    return is_nowhere_below(half_polynomial(wave), negative(half), half)


def _check_stretch(given):
    """Refuses what is no fraction above 0 and below 1."""
    if not is_stretch(given):
        raise InvalidFraction(given)

"""Readings of the deviation while the ship was swung, and what they tell of the five that nobody knows."""

from itertools import combinations

from ironships.cones import Sums
from ironships.errors import InvalidIndex, InvalidReading, InvalidReadings, NoneFits
from ironships.headings import is_heading
from ironships.irons import check_five
from ironships.needles import north_part, tangent_at
from ironships.numbers import are_bounds, is_row
from ironships.ratios import NOUGHT, ONE, dot, is_whole, minus, negative, over, plus, sign_of, times
from ironships.tuples import first_wrong

MOST_READINGS = 6
NUMBERS = 5
# Rows are six fractions: what stands with A, B, C, D and E, and a number by itself. This one is 1 for all fives.
STEADY = ((0, 1), (0, 1), (0, 1), (0, 1), (0, 1), (1, 1))
# This one is below 0 for all fives.
NEVER = ((0, 1), (0, 1), (0, 1), (0, 1), (0, 1), (-1, 1))


def is_reading(value):
    """Whether a value, whatever it is, is a reading."""
    if not isinstance(value, tuple) or len(value) != 3:
        return False
    heading, low, high = value
    return is_heading(heading) and are_bounds(low, high)


def are_readings(value):
    """Whether a value, whatever it is, is readings: a tuple of none to six."""
    return isinstance(value, tuple) and first_wrong(value, is_reading, MOST_READINGS) is None


def keeps(five, reading):
    """Whether the five keeps the reading."""
    check_five(five)
    _check_reading(reading)
    return _is_kept(_rows_of((reading,)), five)


def fits(five, readings):
    """Whether the five keeps all readings."""
    check_five(five)
    _check_readings(readings)
    return _is_kept(_rows_of(readings), five)


def any_five(readings):
    """A five that fits the readings; None if they clash."""
    _check_readings(readings)
    return _fitting_five(_rows_of(readings))


def clash_weights(readings):
    """Weights that show that the readings clash; None if some five fits."""
    _check_readings(readings)
    sums = _sums(_rows_of(readings), NEVER)
    if not sums.is_reached:
        return None
    weights = sums.weights
    return tuple([weights[at:at + 3] for at in range(0, len(weights), 3)])


def are_clash_weights(readings, value):
    """Whether a value, whatever it is, is weights that show that the readings clash."""
    _check_readings(readings)
    if not isinstance(value, tuple) or len(value) != len(readings) or not all([_is_weight(each) for each in value]):
        return False
    weights = [weight for triple in value for weight in triple]
    rows = _rows_of(readings)
    totals = [dot(weights, [row[at] for row in rows]) for at in range(NUMBERS + 1)]
    return totals[:NUMBERS] == [NOUGHT] * NUMBERS and sign_of(totals[NUMBERS]) < 0


def clashing(readings):
    """The indexes of the fewest readings that clash alone, of as few the least; None if some five fits."""
    if any_five(readings) is not None:
        return None
    for many in range(1, len(readings) + 1):
        for picked in combinations(range(len(readings)), many):
            if _fitting_five(_rows_of([readings[index] for index in picked])) is None:
                return picked
    return None


def number_range(readings, index):
    """The least and the greatest of one of the five numbers over all fives that fit, None for an endless side."""
    _check_readings(readings)
    if not is_whole(index) or index < 0 or index >= NUMBERS:
        raise InvalidIndex(index)
    _check_some_fits(readings)
    return _ends_of(_rows_of(readings), index)


def settled_numbers(readings):
    """The indexes of the five numbers that are the same for all fives that fit."""
    _check_readings(readings)
    _check_some_fits(readings)
    rows = _rows_of(readings)
    return tuple([index for index in range(NUMBERS) if _is_settled(rows, index)])


def reading_word(readings, reading):
    """Whether a further reading is sure or never kept by the fives that fit, or open."""
    _check_readings(readings)
    _check_reading(reading)
    _check_some_fits(readings)
    if five_against(readings, reading) is None:
        return "sure"
    return "never" if _fitting_five(_rows_of(readings + (reading,))) is None else "open"


def needless_readings(readings):
    """The indexes of the readings that all fives keep that fit the others."""
    _check_readings(readings)
    return tuple([index for index in range(len(readings)) if _is_needless(readings, index)])


def reading_of(five, heading):
    """The reading of a five at a heading; None if its part to the north is not above 0 there."""
    if sign_of(north_part(five, heading)) < 1:
        return None
    tangent = tangent_at(five, heading)
    return (heading, tangent, tangent)


def five_against(readings, reading):
    """A five that fits the readings, but does not keep this further one; None if there is none."""
    rows = _rows_of(readings)
    for row in _rows_of((reading,)):
        five = _five_below(rows, row)
        if five is not None:
            return five
    return None


def _check_reading(given):
    """Refuses what is no reading."""
    if not is_reading(given):
        raise InvalidReading(given)


def _check_readings(given):
    """Refuses what is no readings, with the index of the first one that is wrong."""
    if not isinstance(given, tuple):
        raise InvalidReadings(None)
    index = first_wrong(given, is_reading, MOST_READINGS)
    if index is not None:
        raise InvalidReadings(index)


def _check_some_fits(readings):
    """Refuses readings that clash."""
    if _fitting_five(_rows_of(readings)) is None:
        raise NoneFits()


def _rows_of(readings):
    """The three numbers of each reading, as rows."""
    rows = []
    for (cosine, sine), low, high in readings:
        double = minus(times(cosine, cosine), times(sine, sine))
        doubled = times((2, 1), times(cosine, sine))
        north = (NOUGHT, cosine, negative(sine), double, negative(doubled), ONE)
        east = (ONE, sine, cosine, doubled, double, NOUGHT)
        above_low = tuple([minus(part, times(low, other)) for part, other in zip(east, north)])
        below_high = tuple([minus(times(high, other), part) for part, other in zip(east, north)])
        rows.extend([north, above_low, below_high])
    return rows


def _worth(row, five):
    """What a row is worth for a five."""
    return dot(row, five + (ONE,))


def _is_kept(rows, five):
    """Whether all rows are from 0 on for a five."""
    return all([sign_of(_worth(row, five)) >= 0 for row in rows])


def _is_weight(value):
    """Whether a value, whatever it is, is three fractions from 0 on."""
    return is_row(value, 3) and all([sign_of(number) >= 0 for number in value])


def _sums(rows, target):
    """How the target is a sum of the rows, each times a weight from 0 on, or a row that parts it from these sums."""
    return Sums(rows, target, [NOUGHT] * len(rows))


def _fitting_five(rows):
    """A five for which all rows are from 0 on; None if there is none."""
    sums = _sums(rows, NEVER)
    return None if sums.is_reached else _five_along(sums.parting)


def _five_along(numbers):
    """The five with a 1 behind it that goes along six numbers, the last one above 0."""
    return tuple([over(number, numbers[NUMBERS]) for number in numbers[:NUMBERS]])


def _five_below(rows, row):
    """A five for which all rows are from 0 on, but this one below 0; None if there is none."""
    # By Farkas, if some five lets the rows be from 0 on, a row is so for all of these just if it is a sum of the rows
    # and of a number from 0 on.
    sums = _sums(rows + [STEADY], row)
    if sums.is_reached:
        return None
    parting = sums.parting
    if sign_of(parting[NUMBERS]) > 0:
        return _five_along(parting)
    five, way = _fitting_five(rows), parting[:NUMBERS]
    if five is None:
        return None
    # Along this way from any five no other row falls, but this one does.
    worth = _worth(row, five)
    if sign_of(worth) < 0:
        return five
    share = plus(ONE, over(worth, negative(dot(row[:NUMBERS], way))))
    return tuple([plus(number, times(share, step)) for number, step in zip(five, way)])


def _ends_of(rows, index):
    """The least and the greatest of one of the five numbers where all rows are from 0 on."""
    least, opposite = _least(rows, index, ONE), _least(rows, index, negative(ONE))
    return (least, None if opposite is None else negative(opposite))


def _is_settled(rows, index):
    """Whether one of the five numbers has a least where all rows are from 0 on, and no other worth."""
    least = _least(rows, index, ONE)
    return least is not None and _least(rows, index, negative(ONE)) == negative(least)


def _least(rows, index, factor):
    """The least of so many times one of the five numbers where all rows are from 0 on; None if there is none."""
    target = tuple([factor if at == index else NOUGHT for at in range(NUMBERS)])
    # A sum of the rows that has nothing but this in it tells by its number how far down it can come.
    sums = Sums([row[:NUMBERS] for row in rows], target, [row[NUMBERS] for row in rows])
    return negative(sums.cost) if sums.is_reached else None


def _is_needless(readings, index):
    """Whether all fives that fit the other readings keep the one with this index."""
    return five_against(readings[:index] + readings[index + 1:], readings[index]) is None

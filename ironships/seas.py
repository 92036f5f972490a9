"""Seas: all places between some marks, and what holds of an iron in all of them, or at all places there are."""

from ironships.bounds import is_within
from ironships.cones import Sums
from ironships.errors import InvalidFraction, InvalidSea, SameDip
from ironships.irons import check_five, check_iron, check_place, five_of, is_place, strength_of
from ironships.numbers import check_bounds, check_fraction, compare, surd_of
from ironships.ratios import NOUGHT, ONE, dot, minus, negative, over, plus, sign_of, times
from ironships.rounds import round_numbers, round_word
from ironships.tuples import first_wrong

MOST_MARKS = 6
# The share of a place itself, and that of the other one.
HERE = ((0, 1), 0, (0, 1))
THERE = ((1, 1), 0, (0, 1))


def is_sea(value):
    """Whether a value, whatever it is, is a sea: a tuple of one to six places."""
    return isinstance(value, tuple) and len(value) > 0 and first_wrong(value, is_place, MOST_MARKS) is None


def spot_of(place):
    """The spot of a place."""
    check_place(place)
    force, down = place
    return (over(ONE, force), over(down, force))


def place_between(place, other, fraction):
    """The place at the share from a place to another one."""
    check_place(place)
    check_place(other)
    check_fraction(fraction)
    if sign_of(fraction) < 0 or sign_of(minus(ONE, fraction)) < 0:
        raise InvalidFraction(fraction)
    here, there = spot_of(place), spot_of(other)
    x, y = [plus(begin, times(fraction, minus(end, begin))) for begin, end in zip(here, there)]
    return (over(ONE, x), over(y, x))


def sea_shares(sea, place):
    """Shares with which the place is in the sea; None if it is not."""
    sums = _checked_sums(sea, place)
    return sums.weights if sums.is_reached else None


def parting_row(sea, place):
    """A row that parts the place from the sea; None if it is in the sea."""
    sums = _checked_sums(sea, place)
    return None if sums.is_reached else sums.parting


def word_over(iron, sea):
    """The word round or backward if the iron is so in all places of the sea; None otherwise."""
    check_iron(iron)
    check_sea(sea)
    words = [round_word(five_of(iron, mark)) for mark in sea]
    if words[0] in ("round", "backward") and words.count(words[0]) == len(words):
        return words[0]
    return None


def is_within_over(iron, sea, low, high):
    """Whether in all places of the sea the iron is ahead and its tangents are from low up to high."""
    check_iron(iron)
    check_sea(sea)
    check_bounds(low, high)
    return all([is_within(five_of(iron, mark), low, high) for mark in sea])


def round_shares(iron, place, other):
    """The ends of the shares, from a place to another one, at which the iron is round; None if it is at none."""
    check_iron(iron)
    check_place(place)
    check_place(other)
    w, *begin = round_numbers(five_of(iron, place))
    _, *end = round_numbers(five_of(iron, other))
    if sign_of(w) < 1:
        return None
    step = [minus(last, first) for first, last in zip(begin, end)]
    # At the share r the square of T less that of W is bend r r + 2 slope r + first.
    bend, slope, first = dot(step, step), dot(begin, step), minus(dot(begin, begin), times(w, w))
    if bend == NOUGHT:
        return (HERE, THERE) if sign_of(first) < 0 else None
    under = minus(times(slope, slope), times(bend, first))
    if sign_of(under) < 1:
        return None
    middle, factor = over(negative(slope), bend), over(ONE, bend)
    return _cut_shares(surd_of(middle, negative(factor), under), surd_of(middle, factor, under))


def has_none_anywhere(iron):
    """Whether the iron has no deviation at any heading and place."""
    check_iron(iron)
    (a, b, c, fore), (d, e, f, side), _ = iron
    return (b, c, d, f, fore, side) == (NOUGHT,) * 6 and a == e


def are_alike_anywhere(iron, other):
    """Whether both irons deviate alike at all headings and places."""
    check_iron(iron)
    check_iron(other)
    return _over_strength(iron) == _over_strength(other)


def soft_and_hard(five, place, other, second):
    """What soft iron that stands upright and what hard iron does, over the strength, by fives at two places."""
    check_five(five)
    check_place(place)
    check_five(other)
    check_place(second)
    if place[1] == second[1]:
        raise SameDip()
    (x, y), (second_x, second_y) = spot_of(place), spot_of(second)
    across = minus(times(x, second_y), times(second_x, y))
    # For B, and likewise for C: x times hard and y times soft iron are what it is, at both places.
    pairs = list(zip(five[1:3], other[1:3]))
    soft = tuple([over(dot((x, negative(second_x)), (last, first)), across) for first, last in pairs])
    hard = tuple([over(dot((second_y, negative(y)), pair), across) for pair in pairs])
    return (soft, hard)


def check_sea(given):
    """Refuses what is no sea, with the index of the first mark that is wrong."""
    if not isinstance(given, tuple) or len(given) == 0:
        raise InvalidSea(None)
    index = first_wrong(given, is_place, MOST_MARKS)
    if index is not None:
        raise InvalidSea(index)


def _checked_sums(sea, place):
    """Whether, and how, the place's spot is a weighed sum of the marks' spots."""
    check_sea(sea)
    check_place(place)
    # The number 1 beside each spot makes the shares add up to 1.
    return Sums([spot_of(mark) + (ONE,) for mark in sea], spot_of(place) + (ONE,), [NOUGHT] * len(sea))


def _cut_shares(low, high):
    """What is strictly between two unlike surds, cut to shares; None if there is nothing."""
    if compare(low, THERE) >= 0 or compare(high, HERE) <= 0:
        return None
    return (low if compare(low, HERE) > 0 else HERE, high if compare(high, THERE) < 0 else THERE)


def _over_strength(iron):
    """The numbers of the iron that tell its deviations at all places, over its strength."""
    strength = strength_of(iron)
    (a, b, c, fore), (d, e, f, side), _ = iron
    numbers = (minus(d, b), minus(a, e), plus(d, b), c, f, fore, side)
    return [over(number, strength) for number in numbers]

"""Irons and places: what the iron of a ship adds to the earth's field, and the five that it comes to there."""

from ironships.errors import InvalidFive, InvalidIron, InvalidPiece, InvalidPlace, TooMuchIron
from ironships.numbers import is_row
from ironships.ratios import HALF, NOUGHT, ONE, minus, negative, over, plus, sign_of, times


def is_piece(value):
    """Whether a value, whatever it is, is a piece: three rows of four fractions."""
    return isinstance(value, tuple) and len(value) == 3 and all([is_row(row, 4) for row in value])


def is_iron(value):
    """Whether a value, whatever it is, is an iron: a piece with 2 + a + e above 0."""
    return is_piece(value) and sign_of(plus((2, 1), plus(value[0][0], value[1][1]))) > 0


def is_place(value):
    """Whether a value, whatever it is, is a place: two fractions, the first above 0."""
    return is_row(value, 2) and sign_of(value[0]) > 0


def is_five(value):
    """Whether a value, whatever it is, is a five: five fractions."""
    return is_row(value, 5)


def strength_of(iron):
    """The strength of an iron."""
    check_iron(iron)
    return plus(ONE, times(HALF, plus(iron[0][0], iron[1][1])))


def five_of(iron, place):
    """The five of an iron at a place."""
    strength = strength_of(iron)
    check_place(place)
    (a, b, c, fore), (d, e, f, side), _ = iron
    force, down = place
    twice, scale = plus(strength, strength), times(strength, force)
    return (
        over(minus(d, b), twice),
        over(plus(times(c, down), fore), scale),
        over(plus(times(f, down), side), scale),
        over(minus(a, e), twice),
        over(plus(d, b), twice),
    )


def plain_iron(five, place):
    """The iron of strength 1 without a lower row that has this five at the place."""
    check_five(five)
    check_place(place)
    a, b, c, d, e = five
    force = place[0]
    fore = (d, minus(e, a), NOUGHT, times(force, b))
    side = (plus(e, a), negative(d), NOUGHT, times(force, c))
    return (fore, side, (NOUGHT, NOUGHT, NOUGHT, NOUGHT))


def joined(iron, piece):
    """An iron and a piece, each number added to that in its place."""
    check_iron(iron)
    check_piece(piece)
    both = tuple([_joined_row(row, other) for row, other in zip(iron, piece)])
    # Three rows of fractions it is in any case; it can only lack the strength.
    if not is_iron(both):
        raise TooMuchIron()
    return both


def check_iron(given):
    """Refuses what is no iron."""
    if not is_iron(given):
        raise InvalidIron(given)


def check_piece(given):
    """Refuses what is no piece."""
    if not is_piece(given):
        raise InvalidPiece(given)


def check_place(given):
    """Refuses what is no place."""
    if not is_place(given):
        raise InvalidPlace(given)


def check_five(given):
    """Refuses what is no five."""
    if not is_five(given):
        raise InvalidFive(given)


def _joined_row(row, other):
    """Two rows, each number added to that in its place."""
    return tuple([plus(number, added) for number, added in zip(row, other)])

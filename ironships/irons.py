"""Irons and places: rows of fractions that tell what the iron of a ship adds to a field, and fields."""

from ironships.errors import InvalidIron, InvalidPlace
from ironships.numbers import is_fraction
from ironships.ratios import plus, sign_of


def is_piece(value):
    """Whether a value, whatever it is, is a piece: three rows of four fractions."""
    return isinstance(value, tuple) and len(value) == 3 and all([_is_row(row) for row in value])


def is_iron(value):
    """Whether a value, whatever it is, is an iron: a piece with 2 + a + e above 0."""
    return is_piece(value) and sign_of(plus((2, 1), plus(value[0][0], value[1][1]))) > 0


def is_place(value):
    """Whether a value, whatever it is, is a place: two fractions, the first above 0."""
    if not isinstance(value, tuple) or len(value) != 2:
        return False
    return is_fraction(value[0]) and is_fraction(value[1]) and sign_of(value[0]) > 0


def check_iron(given):
    """Refuses what is no iron."""
    if not is_iron(given):
        raise InvalidIron(given)


def check_place(given):
    """Refuses what is no place."""
    if not is_place(given):
        raise InvalidPlace(given)


def _is_row(value):
    """Whether a value, whatever it is, is a row: a tuple of four fractions."""
    return isinstance(value, tuple) and len(value) == 4 and all([is_fraction(number) for number in value])

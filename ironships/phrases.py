"""The lines that a console understands, and how numbers, irons and places are written in them."""

from ironships.headings import SOUTH, heading_of
from ironships.irons import is_iron, is_place
from ironships.numbers import is_fraction
from ironships.wishes import is_name

DIGITS = "0123456789"
# Python refuses to read and to write very long numbers in one piece, so this is done by so many digits.
PIECE = 64
PIECE_SIZE = 10 ** 64


def whole_text(number):
    """A whole number as str writes it."""
    sign, left = ("-", -number) if number < 0 else ("", number)
    pieces = []
    while left >= PIECE_SIZE:
        left, piece = divmod(left, PIECE_SIZE)
        pieces.append(str(piece).zfill(PIECE))
    pieces.append(str(left))
    return sign + "".join(pieces[::-1])


def fraction_text(fraction):
    """A fraction, with / between its whole numbers."""
    return whole_text(fraction[0]) + "/" + whole_text(fraction[1])


def row_text(fractions):
    """Fractions, with blanks between."""
    return " ".join([fraction_text(fraction) for fraction in fractions])


def iron_text(iron):
    """An iron: its rows, parted by semicolons and blanks."""
    return "; ".join([row_text(row) for row in iron])


def phrase_in(line):
    """The verb of a line, its name, and what is told behind it, None for what there is not; None for no phrase."""
    if not isinstance(line, str):
        return None
    if line in ("names", "undo"):
        return (line, None, None)
    head, colon, rest = line.partition(": ")
    verb, _, name = head.partition(" ")
    if not is_name(name):
        return None
    if colon == "":
        return (verb, name, None) if verb in ("drop", "iron") else None
    if verb not in READERS:
        return None
    reader = READERS[verb]
    told = reader(rest)
    return None if told is None else (verb, name, told)


def _whole_in(text):
    """The whole number that str writes so; None if there is none."""
    digits = text[1:] if text.startswith("-") else text
    if not all([sign in DIGITS for sign in digits]):
        return None
    number = 0
    padded = digits.zfill(len(digits) + -len(digits) % PIECE)
    for at in range(0, len(padded), PIECE):
        number = number * PIECE_SIZE + int(padded[at:at + PIECE])
    number = -number if text.startswith("-") else number
    # So noughts ahead, a sign before 0 and no digits at all are refused, too.
    return number if whole_text(number) == text else None


def _fraction_in(text):
    """The fraction that is written so; None if there is none."""
    top, _, bottom = text.partition("/")
    fraction = (_whole_in(top), _whole_in(bottom))
    return fraction if is_fraction(fraction) else None


def _row_in(text):
    """Fractions with one blank between each two, None for what is none."""
    return tuple([_fraction_in(word) for word in text.split(" ")])


def _iron_in(text):
    """The iron that is written so; None if there is none."""
    rows = tuple([_row_in(row) for row in text.split("; ")])
    return rows if is_iron(rows) else None


def _place_in(text):
    """The place that is written so; None if there is none."""
    row = _row_in(text)
    return row if is_place(row) else None


def _heading_in(text):
    """The heading whose half tangent is written so, or south; None if there is none."""
    if text == "south":
        return SOUTH
    half = _fraction_in(text)
    return None if half is None else heading_of(half)


def _place_and_heading_in(text):
    """The place and the heading that are written so; None if one is missing."""
    first, _, last = text.partition("; ")
    place, heading = _place_in(first), _heading_in(last)
    return None if place is None or heading is None else (place, heading)


# What is told behind the name and the colon, for the verbs that have these.
READERS = {
    "put": _iron_in,
    "five": _place_in,
    "word": _place_in,
    "tangent": _place_and_heading_in,
}

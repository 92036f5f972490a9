"""Boxes of pieces that are put beside a compass: the fewest that keep it within bounds, or clear it everywhere."""

from ironships.bounds import is_within
from ironships.errors import InvalidBox, InvalidCounts, TooMuchIron
from ironships.irons import check_iron, check_place, five_of, is_iron, is_piece
from ironships.numbers import check_bounds
from ironships.ratios import is_whole, plus, times
from ironships.seas import has_none_anywhere
from ironships.tuples import first_wrong

MOST_PAIRS = 4
MOST_OF_A_PIECE = 3


def is_box(value):
    """Whether a value, whatever it is, is a box: a tuple of one to four pairs of a piece and how many there are."""
    return isinstance(value, tuple) and len(value) > 0 and first_wrong(value, _is_pair, MOST_PAIRS) is None


def built(iron, box, counts):
    """The iron joined with the pieces of the box, each as often as it is counted."""
    check_iron(iron)
    check_box(box)
    _check_counts(counts, box)
    rows = _joined_with(iron, box, counts)
    # Three rows of fractions it is in any case; it can only lack the strength.
    if not is_iron(rows):
        raise TooMuchIron()
    return rows


def fewest_pieces(iron, place, box, low, high):
    """The fewest counts with which the built iron keeps within the bounds at the place; None if there are none."""
    check_iron(iron)
    check_place(place)
    check_box(box)
    check_bounds(low, high)
    for counts in _counts_in_order(box):
        rows = _joined_with(iron, box, counts)
        if is_iron(rows) and is_within(five_of(rows, place), low, high):
            return counts
    return None


def clearing_counts(iron, box):
    """The fewest counts that clear the iron for all headings and places; None if there are none."""
    check_iron(iron)
    check_box(box)
    for counts in _counts_in_order(box):
        if do_clear(iron, box, counts):
            return counts
    return None


def are_counts(value, box):
    """Whether a value, whatever it is, is counts for a box."""
    return isinstance(value, tuple) and len(value) == len(box) and _first_wrong_count(value, box) is None


def do_clear(iron, box, counts):
    """Whether the counts clear the iron for all headings and places."""
    rows = _joined_with(iron, box, counts)
    return is_iron(rows) and has_none_anywhere(rows)


def check_box(given):
    """Refuses what is no box, with the index of the first pair that is wrong."""
    if not isinstance(given, tuple) or len(given) == 0:
        raise InvalidBox(None)
    index = first_wrong(given, _is_pair, MOST_PAIRS)
    if index is not None:
        raise InvalidBox(index)


def _check_counts(given, box):
    """Refuses what is no counts for the box, with the index of the first count that is wrong."""
    if not isinstance(given, tuple) or len(given) != len(box):
        raise InvalidCounts(None)
    index = _first_wrong_count(given, box)
    if index is not None:
        raise InvalidCounts(index)


def _is_pair(value):
    """Whether a value, whatever it is, is a pair of a piece and how many of it there are."""
    if not isinstance(value, tuple) or len(value) != 2:
        return False
    piece, many = value
    return is_piece(piece) and is_whole(many) and many >= 1 and many <= MOST_OF_A_PIECE


def _first_wrong_count(counts, box):
    """The index of the first element that is no whole number from 0 up to what the box has; None if there is none."""
    for index, count in enumerate(counts):
        if not is_whole(count) or count < 0 or count > box[index][1]:
            return index
    return None


def _counts_in_order(box):
    """All counts for a box, the fewer first."""
    found = [()]
    for _, many in box:
        found = [counts + (count,) for counts in found for count in range(many + 1)]
    return sorted(found, key=lambda counts: (sum(counts), counts))


def _joined_with(iron, box, counts):
    """The rows of the iron with all counted pieces, whether or not they make an iron."""
    rows = iron
    for (piece, _), count in zip(box, counts):
        rows = [_joined_row(row, added, (count, 1)) for row, added in zip(rows, piece)]
    return tuple(rows)


def _joined_row(row, added, many):
    """A row and so many times another one, each number added to that in its place."""
    return tuple([plus(number, times(many, more)) for number, more in zip(row, added)])

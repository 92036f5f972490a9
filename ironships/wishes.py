"""Names and wishes of a workshop: what they are, and whether a wish holds for an iron."""

from ironships.bounds import is_as_strong, is_force, is_within
from ironships.headings import is_heading
from ironships.heels import is_still, is_stretch
from ironships.irons import five_of, is_place
from ironships.numbers import are_bounds
from ironships.rounds import round_word
from ironships.seas import is_sea, is_within_over, word_over

LETTERS = "abcdefghijklmnopqrstuvwxyz"
LONGEST_NAME = 12


def is_name(value):
    """Whether a value, whatever it is, is a name: a string of 1 to 12 letters from a to z."""
    if not isinstance(value, str) or value == "" or len(value) > LONGEST_NAME:
        return False
    return all([letter in LETTERS for letter in value])


def is_wish(value):
    """Whether a value, whatever it is, is a wish of one of the forms with right parts."""
    if not isinstance(value, tuple) or len(value) < 3 or not isinstance(value[0], str):
        return False
    form, name, where, *bounds = value
    if form not in BOUNDS or not is_name(name):
        return False
    if not (is_sea(where) if form in OVER_SEAS else is_place(where)):
        return False
    are_right = BOUNDS[form]
    return are_right(bounds)


def does_hold(wish, iron):
    """Whether the wish holds if this is the iron under its name."""
    form, _, where, *bounds = wish
    judge = JUDGES[form]
    return judge(iron, where, bounds)


def _are_none(bounds):
    """Whether there is nothing behind the place or the sea."""
    return len(bounds) == 0


def _are_tangents(bounds):
    """Whether these are a low and a high tangent."""
    return len(bounds) == 2 and are_bounds(bounds[0], bounds[1])


def _are_a_force(bounds):
    """Whether this is a force."""
    return len(bounds) == 1 and is_force(bounds[0])


def _are_heels(bounds):
    """Whether these are a heading and the half of the greatest heel."""
    return len(bounds) == 2 and is_heading(bounds[0]) and is_stretch(bounds[1])


def _is_round(iron, place, _):
    """Whether the iron is round at the place."""
    return round_word(five_of(iron, place)) == "round"


def _is_within(iron, place, bounds):
    """Whether the iron is ahead at the place, with tangents from the low to the high bound."""
    return is_within(five_of(iron, place), bounds[0], bounds[1])


def _is_strong(iron, place, bounds):
    """Whether the force square of the iron at the place is at least the bound."""
    return is_as_strong(five_of(iron, place), bounds[0])


def _is_round_over(iron, sea, _):
    """Whether the iron is round in all places of the sea."""
    return word_over(iron, sea) == "round"


def _is_within_over(iron, sea, bounds):
    """Whether the iron is within the bounds in all places of the sea."""
    return is_within_over(iron, sea, bounds[0], bounds[1])


def _is_still(iron, place, bounds):
    """Whether the ship is still at the heading for all heels up to the half."""
    return is_still(iron, place, bounds[0], bounds[1])


# What stands behind the place or the sea of each form.
BOUNDS = {
    "round": _are_none,
    "within": _are_tangents,
    "strong": _are_a_force,
    "round over": _are_none,
    "within over": _are_tangents,
    "still": _are_heels,
}
OVER_SEAS = ("round over", "within over")
JUDGES = {
    "round": _is_round,
    "within": _is_within,
    "strong": _is_strong,
    "round over": _is_round_over,
    "within over": _is_within_over,
    "still": _is_still,
}

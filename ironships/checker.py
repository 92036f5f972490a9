"""The checker: whether a claim is one, and has a paper that shows it."""

from ironships.alike import are_alike
from ironships.bounds import breaking_heading, deviates_less, is_ahead, is_within
from ironships.boxes import are_counts, clearing_counts, do_clear, is_box
from ironships.headings import is_heading
from ironships.irons import five_of, is_five, is_iron, is_place
from ironships.needles import course_at, east_part, north_part, tangent_at
from ironships.notes import any_five, are_clash_weights, are_readings, fits, is_reading, keeps, reading_word
from ironships.numbers import are_bounds, is_row
from ironships.ratios import NOUGHT, ONE, dot, is_whole, minus, negative, sign_of, times
from ironships.rounds import round_word, twin_headings
from ironships.seas import is_sea, spot_of, word_over


def accepts(claim, paper):
    """Whether the first value, whatever it is, is a claim, and the other one, whatever it is, a paper for it."""
    if not isinstance(claim, tuple) or len(claim) == 0 or not isinstance(claim[0], str):
        return False
    form, *parts = claim
    if form not in JUDGES or len(parts) != PARTS[form]:
        return False
    judge = JUDGES[form]
    return judge(*parts, paper)


def _is_empty(paper):
    """Whether a paper is ()."""
    return isinstance(paper, tuple) and len(paper) == 0


def _has_word(five, word, paper):
    return is_five(five) and isinstance(word, str) and _is_empty(paper) and round_word(five) == word


def _has_twins(five, paper):
    if not is_five(five) or not isinstance(paper, tuple) or len(paper) != 2:
        return False
    first, second = paper
    if not is_heading(first) or not is_heading(second) or first == second:
        return False
    course = course_at(five, first)
    return course is not None and course_at(five, second) == course


def _has_no_twins(five, paper):
    return is_five(five) and _is_empty(paper) and twin_headings(five) is None


def _is_within(five, low, high, paper):
    return is_five(five) and are_bounds(low, high) and _is_empty(paper) and is_within(five, low, high)


def _is_not_within(five, low, high, paper):
    if not is_five(five) or not are_bounds(low, high):
        return False
    if _is_empty(paper):
        return not is_within(five, low, high) and breaking_heading(five, low, high) is None
    if not is_heading(paper):
        return False
    north, east = north_part(five, paper), east_part(five, paper)
    if sign_of(north) < 1:
        return True
    return sign_of(minus(east, times(low, north))) < 0 or sign_of(minus(times(high, north), east)) < 0


def _are_alike(five, other, paper):
    return is_five(five) and is_five(other) and _is_empty(paper) and are_alike(five, other)


def _are_unlike(five, other, paper):
    if not is_five(five) or not is_five(other) or not is_heading(paper):
        return False
    force = (north_part(five, paper), east_part(five, paper))
    other_force = (north_part(other, paper), east_part(other, paper))
    across = dot((force[0], negative(force[1])), other_force[::-1])
    # Both are 0 if one has no force; the same deviation is the first one 0 and the other one above 0.
    return across != NOUGHT or sign_of(dot(force, other_force)) < 0


def _is_less(five, other, paper):
    return _are_ahead(five, other) and _is_empty(paper) and deviates_less(five, other)


def _is_not_less(five, other, paper):
    if not _are_ahead(five, other) or not is_heading(paper):
        return False
    tangent, other_tangent = tangent_at(five, paper), tangent_at(other, paper)
    return sign_of(minus(times(tangent, tangent), times(other_tangent, other_tangent))) > 0


def _are_ahead(five, other):
    """Whether two values, whatever they are, are fives that are ahead."""
    return is_five(five) and is_five(other) and is_ahead(five) and is_ahead(other)


def _is_in_sea(sea, place, paper):
    if not is_sea(sea) or not is_place(place) or not is_row(paper, len(sea)):
        return False
    if not all([sign_of(share) >= 0 for share in paper]):
        return False
    # The number 1 beside each spot tells whether the shares add up to 1.
    rows = [spot_of(mark) + (ONE,) for mark in sea]
    weighed = [dot(paper, [row[at] for row in rows]) for at in range(3)]
    return tuple(weighed) == spot_of(place) + (ONE,)


def _is_out_of_sea(sea, place, paper):
    if not is_sea(sea) or not is_place(place) or not is_row(paper, 3):
        return False
    worths = [sign_of(dot(paper, spot_of(mark) + (ONE,))) for mark in sea]
    return min(worths) >= 0 and sign_of(dot(paper, spot_of(place) + (ONE,))) < 0


def _is_round_over(iron, sea, paper):
    return is_iron(iron) and is_sea(sea) and _is_empty(paper) and word_over(iron, sea) == "round"


def _is_not_round_over(iron, sea, paper):
    if not is_iron(iron) or not is_sea(sea) or not is_whole(paper) or paper < 0 or paper >= len(sea):
        return False
    return round_word(five_of(iron, sea[paper])) != "round"


def _do_fit(readings, paper):
    return are_readings(readings) and is_five(paper) and fits(paper, readings)


def _do_clash(readings, paper):
    return are_readings(readings) and are_clash_weights(readings, paper)


def _is_sure(readings, reading, paper):
    if not are_readings(readings) or not is_reading(reading) or not _is_empty(paper):
        return False
    return any_five(readings) is not None and reading_word(readings, reading) == "sure"


def _is_not_sure(readings, reading, paper):
    if not are_readings(readings) or not is_reading(reading) or not is_five(paper):
        return False
    return fits(paper, readings) and not keeps(paper, reading)


def _do_clear(iron, box, counts, paper):
    if not is_iron(iron) or not is_box(box) or not are_counts(counts, box):
        return False
    return _is_empty(paper) and do_clear(iron, box, counts)


def _none_clears(iron, box, paper):
    return is_iron(iron) and is_box(box) and _is_empty(paper) and clearing_counts(iron, box) is None


# How many parts each form of claims has behind its word, and what decides about them and a paper.
PARTS = {
    "round word": 2, "twins": 1, "no twins": 1, "within": 3, "not within": 3, "alike": 2, "unlike": 2, "less": 2,
    "not less": 2, "in sea": 2, "out of sea": 2, "round over": 2, "not round over": 2, "fit": 1, "clash": 1,
    "sure": 2, "not sure": 2, "clears": 3, "none clears": 2,
}
JUDGES = {
    "round word": _has_word,
    "twins": _has_twins,
    "no twins": _has_no_twins,
    "within": _is_within,
    "not within": _is_not_within,
    "alike": _are_alike,
    "unlike": _are_unlike,
    "less": _is_less,
    "not less": _is_not_less,
    "in sea": _is_in_sea,
    "out of sea": _is_out_of_sea,
    "round over": _is_round_over,
    "not round over": _is_not_round_over,
    "fit": _do_fit,
    "clash": _do_clash,
    "sure": _is_sure,
    "not sure": _is_not_sure,
    "clears": _do_clear,
    "none clears": _none_clears,
}

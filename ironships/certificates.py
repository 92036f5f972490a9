"""Certificates: claims with papers that the checker accepts; of two that exclude one another the one that is so."""

from ironships.alike import parting_heading
from ironships.bounds import breaking_heading, greater_heading, is_within
from ironships.boxes import clearing_counts
from ironships.irons import five_of
from ironships.notes import any_five, clash_weights, five_against, reading_word
from ironships.rounds import round_word, twin_headings
from ironships.seas import parting_row, sea_shares, word_over


def certify_word(five):
    """What the round word of a five is."""
    return (("round word", five, round_word(five)), ())


def certify_twins(five):
    """Whether a five has twins."""
    twins = twin_headings(five)
    return (("no twins", five), ()) if twins is None else (("twins", five), twins)


def certify_within(five, low, high):
    """Whether a five is ahead with all tangents within the bounds."""
    if is_within(five, low, high):
        return (("within", five, low, high), ())
    heading = breaking_heading(five, low, high)
    return (("not within", five, low, high), () if heading is None else heading)


def certify_alike(five, other):
    """Whether two fives are alike."""
    heading = parting_heading(five, other)
    return (("alike", five, other), ()) if heading is None else (("unlike", five, other), heading)


def certify_less(five, other):
    """Whether the first one of two fives, both ahead, deviates less."""
    heading = greater_heading(five, other)
    return (("less", five, other), ()) if heading is None else (("not less", five, other), heading)


def certify_sea(sea, place):
    """Whether a place is in a sea."""
    shares = sea_shares(sea, place)
    if shares is not None:
        return (("in sea", sea, place), shares)
    return (("out of sea", sea, place), parting_row(sea, place))


def certify_over(iron, sea):
    """Whether an iron is round in all places of a sea."""
    if word_over(iron, sea) == "round":
        return (("round over", iron, sea), ())
    words = [round_word(five_of(iron, mark)) for mark in sea]
    # In all of the sea it is round if it is so at the marks.
    index = [word == "round" for word in words].index(False)
    return (("not round over", iron, sea), index)


def certify_readings(readings):
    """Whether some five fits readings."""
    five = any_five(readings)
    return (("clash", readings), clash_weights(readings)) if five is None else (("fit", readings), five)


def certify_reading(readings, reading):
    """Whether all fives that fit readings keep a further one."""
    if reading_word(readings, reading) == "sure":
        return (("sure", readings, reading), ())
    return (("not sure", readings, reading), five_against(readings, reading))


def certify_box(iron, box):
    """Which counts, the fewest, clear an iron for all headings and places, or that none do."""
    counts = clearing_counts(iron, box)
    return (("none clears", iron, box), ()) if counts is None else (("clears", iron, box, counts), ())

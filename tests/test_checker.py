"""Point [46] and the interface of checker.py and certificates.py, with what [2] to [5] say of them."""

import unittest
from fractions import Fraction
from math import gcd

from arguments import Arguments, index_by, refused
from ironships.bounds import deviates_less, is_ahead, is_within
from ironships.boxes import clearing_counts
from ironships.certificates import (
    certify_alike, certify_box, certify_less, certify_over, certify_reading, certify_readings, certify_sea,
    certify_twins, certify_within, certify_word,
)
from ironships.checker import accepts
from ironships.errors import (
    HighBelowLow, InvalidBox, InvalidFive, InvalidFraction, InvalidIron, InvalidPlace, InvalidReading,
    InvalidReadings, InvalidSea, NoneFits, NotAhead,
)
from ironships.irons import five_of, is_five, is_piece, is_place
from ironships.headings import is_heading
from ironships.notes import is_reading, reading_word
from ironships.rounds import round_word
from ironships.seas import word_over
from samples import (
    EAST, HALF, HUGE, LEVEL, NIL, NORTH, NOTHING, ONE, POST, SOUTH, STEER, STRANGE, WEST, Spiteful, Stream, force_at,
    fraction, heading_of_half, lined_five, number, rows_of, ship_force_at,
    five_of as numbers_five,
)

LITTLE = Fraction(1, 10 ** 40)
TAME, BRINK, WILD = [numbers_five(0, b, 0, 0, 0) for b in (Fraction(1, 2), 1, 2)]
SLIGHT, STILL = numbers_five(0, Fraction(1, 4), 0, 0, 0), numbers_five(0, 0, 0, 0, 0)
BACK, STIFF, STIFFER = numbers_five(0, 0, 0, 2, 0), numbers_five(0, 3, 0, 1, 0), numbers_five(0, 5, 0, 1, 0)
AGAINST = numbers_five(0, -3, 0, 1, 0)
FADED, QUARTERS = numbers_five(0, 1, 0, 1, 0), numbers_five(0, 0, 0, Fraction(1, 4), 0)
PORT, CAPE = ((1, 1), (2, 1)), ((1, 4), (2, 1))
BETWEEN, ASIDE = ((1, 2), (2, 1)), ((1, 2), (1, 1))
STEEL = rows_of([0, 0, 0, Fraction(1, 2)] + [0] * 8)
MAGNET = rows_of([0, 0, 0, Fraction(-1, 4)] + [0] * 8)
BALL = rows_of([1, 0, 0, 1, 0, 1, 0, 0, 0, 0, 0, 0])
TURNED = rows_of([2, 0, 0, 1, 0, -2, 0, 0, 0, 0, 0, 0])
CALM = tuple((heading, NIL, NIL) for heading in (NORTH, EAST, SOUTH, WEST, STEER))
SLANT = ((4, 5), (3, 5))
NOISY = CALM + ((SLANT, ONE, ONE),)
WEIGHTS = certify_readings(NOISY)[1]
FIFTH = fraction(Fraction(1, 5))

# Claims that are so, each with a paper for it.
SO = [
    (("round word", TAME, "round"), ()), (("round word", BACK, "backward"), ()), (("round word", WILD, "swings"), ()),
    (("round word", BRINK, "dead"), ()), (("round word", STIFF, "stuck"), ()), (("round word", FADED, "dead"), ()),
    (("twins", WILD), (NORTH, SOUTH)), (("twins", STIFF), (STEER, WEST)), (("twins", FADED), (NORTH, EAST)),
    (("no twins", TAME), ()), (("no twins", BACK), ()), (("no twins", BRINK), ()),
    (("within", TAME, (-3, 5), (3, 5)), ()), (("within", STILL, NIL, NIL), ()),
    (("not within", TAME, NIL, HALF), WEST), (("not within", WILD, (-9, 1), (9, 1)), SOUTH),
    (("not within", BRINK, (-HUGE, 1), (HUGE, 1)), SOUTH),
    (("alike", TAME, TAME), ()), (("alike", STIFF, STIFFER), ()),
    (("unlike", TAME, WILD), EAST), (("unlike", AGAINST, STIFF), NORTH), (("unlike", BRINK, WILD), STEER),
    (("less", SLIGHT, TAME), ()), (("less", TAME, TAME), ()), (("less", STILL, QUARTERS), ()),
    (("not less", TAME, SLIGHT), EAST), (("not less", QUARTERS, TAME), heading_of_half(Fraction(1, 10))),
    (("in sea", (PORT, CAPE), BETWEEN), ((2, 3), (1, 3))), (("in sea", (PORT, PORT), PORT), (HALF, HALF)),
    (("in sea", (PORT,), PORT), (ONE,)), (("in sea", (PORT, CAPE, LEVEL), LEVEL), (NIL, NIL, ONE)),
    (("out of sea", (PORT, CAPE), ASIDE), ((-2, 1), ONE, NIL)), (("out of sea", (PORT,), LEVEL), (NIL, ONE, (-1, 1))),
    (("out of sea", (PORT,) * 6, CAPE), ((-1, 2), NIL, ONE)),
    (("round over", STEEL, (PORT,)), ()), (("round over", POST, (PORT, CAPE)), ()),
    (("not round over", STEEL, (PORT, CAPE)), 1), (("not round over", TURNED, (PORT, LEVEL)), 0),
    (("fit", CALM), STILL), (("fit", ()), WILD), (("fit", CALM[:2]), STILL), (("clash", NOISY), WEIGHTS),
    (("sure", CALM, (SLANT, NIL, NIL)), ()), (("sure", CALM[:1], (NORTH, (-1, 2), NIL)), ()),
    (("not sure", CALM[:1], (EAST, NIL, NIL)), numbers_five(1, 0, 0, 0, -1)),
    (("not sure", (), (NORTH, NIL, NIL)), numbers_five(1, 0, 0, 0, 0)), (("not sure", CALM, (SLANT, ONE, ONE)), STILL),
    (("clears", STEEL, ((MAGNET, 3),), (2,)), ()), (("clears", POST, ((MAGNET, 3), (BALL, 1)), (0, 0)), ()),
    (("clears", STEEL, ((MAGNET, 2), (MAGNET, 2)), (1, 1)), ()),
    (("none clears", STEEL, ((BALL, 2),)), ()), (("none clears", STEEL, ((MAGNET, 1),)), ()),
]
# Claims that are not so; no paper is one for them.
NOT_SO = [
    ("round word", TAME, "backward"), ("round word", BRINK, "stuck"), ("round word", TAME, "Round"),
    ("round word", TAME, ""), ("twins", TAME), ("twins", BACK), ("twins", BRINK), ("no twins", WILD),
    ("no twins", STIFF), ("no twins", FADED), ("within", TAME, (-1, 2), HALF), ("within", WILD, (-9, 1), (9, 1)),
    ("within", BRINK, (-HUGE, 1), (HUGE, 1)), ("not within", TAME, (-3, 5), (3, 5)), ("not within", STILL, NIL, NIL),
    ("alike", TAME, WILD), ("alike", AGAINST, STIFF), ("unlike", TAME, TAME), ("unlike", STIFF, STIFFER),
    ("less", TAME, SLIGHT), ("less", QUARTERS, TAME), ("not less", SLIGHT, TAME), ("not less", TAME, TAME),
    # One of both is not ahead: neither of two claims is so.
    ("less", TAME, WILD), ("not less", TAME, WILD), ("less", WILD, TAME), ("not less", WILD, TAME),
    ("less", STILL, BRINK), ("not less", BRINK, STILL), ("less", STIFF, STIFF), ("not less", BACK, STILL),
    ("in sea", (PORT, CAPE), ASIDE), ("in sea", (PORT,), LEVEL), ("out of sea", (PORT, CAPE), BETWEEN),
    ("out of sea", (PORT,), PORT), ("round over", STEEL, (PORT, CAPE)), ("round over", TURNED, (PORT, LEVEL)),
    ("not round over", STEEL, (PORT,)), ("not round over", POST, (PORT, CAPE)), ("fit", NOISY), ("clash", CALM),
    ("clash", ()), ("sure", CALM, (SLANT, ONE, ONE)), ("sure", CALM[:1], (EAST, NIL, NIL)),
    ("not sure", CALM, (SLANT, NIL, NIL)), ("not sure", CALM[:1], (NORTH, (-1, 2), NIL)),
    # None fits: neither of two claims is so.
    ("sure", NOISY, (SLANT, ONE, ONE)), ("sure", NOISY, (NORTH, NIL, ONE)), ("not sure", NOISY, (EAST, ONE, ONE)),
    ("clears", STEEL, ((MAGNET, 3),), (1,)), ("clears", STEEL, ((MAGNET, 3),), (0,)),
    ("clears", STEEL, ((rows_of([-1, 0, 0, Fraction(-1, 2), 0, -1] + [0] * 6), 1),), (1,)),
    ("none clears", STEEL, ((MAGNET, 3),)), ("none clears", POST, ((BALL, 1),)),
]
FORMS = sorted({claim[0] for claim, _ in SO})
PAPERS = [paper for _, paper in SO] + [
    NORTH, EAST, SOUTH, WEST, STEER, SLANT, (SOUTH, NORTH), (NORTH, NORTH), (EAST, WEST), (NORTH, STEER), 0, 1, 2, -1,
    STILL, TAME, WILD, (ONE, NIL), (NIL, ONE), ((1, 3), (2, 3)), ((-1, 1), (2, 1)), (HALF, HALF), (ONE, ONE),
    (ONE, NIL, NIL), (NIL, NIL, NIL), ((2, 1), (-1, 1), NIL), (NIL,) * 6, ((NIL,) * 3,) * 6, WEIGHTS[::-1],
    ((NIL,) * 3,) * 5, (ONE,), (NIL,), ((ONE,) * 3,), ("round",), "round", ((),),
]


def spot(place):
    force, down = [number(each) for each in place]
    return 1 / force, down / force


def is_kept(five, reading):
    north, east = force_at(five, reading[0])
    return north >= 0 and number(reading[1]) * north <= east <= number(reading[2]) * north


def is_ratio(value):
    return type(value) is tuple and [type(each) for each in value] == [int, int] and value[1] > 0 and gcd(*value) == 1


def is_row(value, many):
    return type(value) is tuple and len(value) == many and all(map(is_ratio, value))


def shows_twins(paper, five):
    if type(paper) is not tuple or len(paper) != 2 or not all(map(is_heading, paper)) or paper[0] == paper[1]:
        return False
    (x, y), (p, q) = [ship_force_at(five, heading) for heading in paper]
    return x * q == y * p and x * p + y * q > 0


def shows_not_within(paper, five, low, high):
    if not is_heading(paper):
        return False
    north, east = force_at(five, paper)
    return north <= 0 or not number(low) <= east / north <= number(high)


def shows_unlike(paper, five, other):
    if not is_heading(paper):
        return False
    (k, m), (n, o) = force_at(five, paper), force_at(other, paper)
    return (k, m) != (0, 0) != (n, o) and not (k * o == m * n and k * n + m * o > 0)


def shows_not_less(paper, five, other):
    if not is_heading(paper) or not is_ahead(five) or not is_ahead(other):
        return False
    (k, m), (n, o) = force_at(five, paper), force_at(other, paper)
    return abs(m / k) > abs(o / n)


def shows_in_sea(paper, sea, place):
    if not is_row(paper, len(sea)):
        return False
    shares = [number(share) for share in paper]
    sums = [sum(share * spot(mark)[at] for share, mark in zip(shares, sea)) for at in range(2)]
    return min(shares) >= 0 and sum(shares) == 1 and tuple(sums) == spot(place)


def shows_out_of_sea(paper, sea, place):
    if not is_row(paper, 3):
        return False
    u, v, w = [number(each) for each in paper]
    worths = [u * x + v * y + w for x, y in map(spot, sea + (place,))]
    return min(worths[:-1]) >= 0 > worths[-1]


def shows_not_round_over(paper, iron, sea):
    return type(paper) is int and 0 <= paper < len(sea) and round_word(five_of(iron, sea[paper])) != "round"


def shows_fit(paper, readings):
    return is_five(paper) and all(is_kept(paper, reading) for reading in readings)


def shows_clash(paper, readings):
    if type(paper) is not tuple or len(paper) != len(readings) or not all(is_row(each, 3) for each in paper):
        return False
    totals = [Fraction(0)] * 6
    for (heading, low, high), triple in zip(readings, paper):
        c, s = [number(each) for each in heading]
        north = [0, c, -s, c * c - s * s, -2 * s * c, 1]
        east = [1, s, c, 2 * s * c, c * c - s * s, 0]
        for at in range(6):
            totals[at] += (number(triple[0]) * north[at] + number(triple[1]) * (east[at] - number(low) * north[at])
                           + number(triple[2]) * (number(high) * north[at] - east[at]))
    return min([number(each) for triple in paper for each in triple], default=0) >= 0 and (
        totals[:5] == [0] * 5 and totals[5] < 0)


def shows_not_sure(paper, readings, reading):
    return shows_fit(paper, readings) and not is_kept(paper, reading)


SHOWING = {
    "twins": shows_twins, "not within": shows_not_within, "unlike": shows_unlike, "not less": shows_not_less,
    "in sea": shows_in_sea, "out of sea": shows_out_of_sea, "not round over": shows_not_round_over, "fit": shows_fit,
    "clash": shows_clash, "not sure": shows_not_sure,
}


class Accepting(unittest.TestCase):
    def test_all_forms(self):
        self.assertEqual(len(FORMS), 19)
        self.assertEqual(FORMS, sorted({claim[0] for claim in NOT_SO}))

    def test_claims_that_are_so(self):
        for claim, paper in SO:
            with self.subTest(claim=claim):
                self.assertIs(accepts(claim, paper), True)
                self.assertIs(accepts(claim=claim, paper=paper), True)
                self.assertIs(accepts(paper=paper, claim=claim), True)

    def test_just_the_papers_that_show_it(self):
        for claim in [claim for claim, _ in SO] + NOT_SO:
            is_so = claim not in NOT_SO
            for paper in PAPERS:
                with self.subTest(claim=claim, paper=paper):
                    if claim[0] in SHOWING:
                        told = SHOWING[claim[0]](paper, *claim[1:])
                        self.assertFalse(told and not is_so)
                    else:
                        told = is_so and type(paper) is tuple and paper == ()
                    self.assertIs(accepts(claim, paper), told)

    def test_papers_of_any_kind(self):
        for claim in [claim for claim, _ in SO] + NOT_SO:
            for paper in STRANGE + [HUGE, -HUGE, "", [()], {(): ()}]:
                told = False
                if type(paper) is tuple and paper == ():
                    told = claim not in NOT_SO and claim[0] not in SHOWING
                with self.subTest(claim=claim, paper=repr(paper)[:40]):
                    self.assertIs(accepts(claim, paper), told)

    def test_a_paper_with_a_part_changed(self):
        for claim, paper in SO:
            if type(paper) is not tuple or paper == ():
                continue
            wrong = [list(paper), paper[:-1], paper + (NIL,), paper + paper, (paper,), paper + ((),)]
            for at in range(len(paper)):
                for value in STRANGE + [list(paper[at]), paper[at][:-1], paper[at] + (1,), (0, 1), (-7, 3)]:
                    wrong.append(paper[:at] + (value,) + paper[at + 1:])
            for value in wrong:
                with self.subTest(claim=claim, paper=repr(value)[:60]):
                    self.assertIs(accepts(claim, value), SHOWING[claim[0]](value, *claim[1:]))

    def test_no_paper_where_one_is_told(self):
        for claim, paper in SO:
            if claim[0] in SHOWING:
                for empty in ((), None, [], "", -1, False, True):
                    self.assertIs(accepts(claim, empty), False)
            else:
                for full in (NORTH, None, [], "", False, 0, ((),), STILL, (0,)):
                    self.assertIs(accepts(claim, full), False)


class ClaimsOfNoForm(unittest.TestCase):
    def refused(self, claim, paper):
        for each in (paper, ()):
            with self.subTest(claim=repr(claim)[:90]):
                self.assertIs(accepts(claim, each), False)

    def test_any_values(self):
        for claim in STRANGE:
            for paper in STRANGE:
                self.assertIs(accepts(claim, paper), False)

    def test_words(self):
        for claim, paper in SO:
            for form in STRANGE + ["Round word", " twins", "twins ", "no  twins", "over", "round", "not", "fits",
                                   "unclear", "not fit", "out sea", b"twins", ("twins",)] + [
                                       other for other in FORMS if other != claim[0]]:
                if type(form) is not str or not self.may_be(form, claim):
                    self.refused((form,) + claim[1:], paper)

    def may_be(self, form, claim):
        """Whether the parts of a claim are right ones for this form, too."""
        kinds = (("twins", "no twins"), ("within", "not within"), ("alike", "unlike", "less", "not less"),
                 ("in sea", "out of sea"), ("round over", "not round over"), ("fit", "clash"), ("sure", "not sure"))
        return any(form in kind and claim[0] in kind for kind in kinds)

    def test_the_other_of_two_claims(self):
        pairs = (("twins", "no twins"), ("within", "not within"), ("alike", "unlike"), ("less", "not less"),
                 ("in sea", "out of sea"), ("round over", "not round over"), ("fit", "clash"), ("sure", "not sure"))
        for claim, _ in SO:
            for pair in pairs:
                if claim[0] in pair:
                    other = (pair[1 - pair.index(claim[0])],) + claim[1:]
                    for paper in PAPERS:
                        self.assertIs(accepts(other, paper), False)

    def test_parts_of_a_wrong_kind(self):
        more = [
            TAME[:4], TAME + (NIL,), list(TAME), NOTHING, POST[:2], list(POST), rows_of([-2] + [0] * 11), (NIL, ONE),
            [PORT], (PORT,) * 7, (PORT, None), ((MAGNET, 4),), ((MAGNET, 0),), [(MAGNET, 1)], CALM + CALM, list(CALM),
            CALM + (None,), (NORTH, ONE, NIL), [NORTH, NIL, NIL], (2, 4), [0, 1], 0, 1, -1, (9,), [2], (2, 0), (True,),
            Spiteful(), "stuck ",
        ]
        for claim, paper in SO:
            for at in range(1, len(claim)):
                for value in STRANGE + more:
                    if claim[0] in ("fit", "not sure") and at == 1 and type(value) is tuple and value == ():
                        continue
                    if at == 3 and type(value) is tuple and {type(each) for each in value} == {int}:
                        # These may be counts.
                        continue
                    self.refused(claim[:at] + (value,) + claim[at + 1:], paper)

    def test_too_many_and_too_few_parts(self):
        for claim, paper in SO:
            self.refused(claim[:-1], paper)
            self.refused(claim[1:], paper)
            self.refused(claim + ((),), paper)
            self.refused(claim + (paper,), paper)
            self.refused(claim + (claim[-1],), paper)
            self.refused(list(claim), paper)
            self.refused((claim,), paper)
            self.refused((list(claim[:1]),) + claim[1:], paper)
            self.refused(claim[::-1], paper)
        for form in FORMS:
            self.refused((form,), ())
            self.refused(form, ())

    def test_bounds_the_wrong_way_round(self):
        for form in ("within", "not within"):
            for paper in PAPERS:
                self.assertIs(accepts((form, TAME, ONE, (-1, 1)), paper), False)
                self.assertIs(accepts((form, TAME, fraction(LITTLE), NIL), paper), False)

    def test_counts_that_are_none(self):
        box = ((MAGNET, 3), (MAGNET, 1))
        self.assertIs(accepts(("clears", STEEL, box, (1, 1)), ()), True)
        self.assertIs(accepts(("clears", STEEL, box, (2, 0)), ()), True)
        for counts in ((0, 2), (2,), (2, 0, 0), [1, 1], (1, True), (3, -1), (1, (1, 1)), (), None, 2):
            self.assertIs(accepts(("clears", STEEL, box, counts), ()), False)


class Papers(unittest.TestCase):
    def test_each_mark_at_which_it_is_not_round(self):
        claim = ("not round over", STEEL, (PORT, CAPE, LEVEL, ((1, 2), NIL)))
        for index, told in ((0, False), (1, True), (2, False), (3, True), (4, False), (-1, False), (-3, False),
                            (True, False), ((1,), False), ("1", False), (None, False), ((1, 1), False)):
            self.assertIs(accepts(claim, index), told)

    def test_bounds_that_just_hold(self):
        # Tangents up to 3 / 4 at the cosine - 3 / 5.
        steep = numbers_five(0, Fraction(3, 5), 0, 0, 0)
        heading = ((-3, 5), (4, 5))
        just, less = (3, 4), fraction(Fraction(3, 4) - LITTLE)
        self.assertIs(accepts(("within", steep, (-3, 4), just), ()), True)
        self.assertIs(accepts(("within", steep, (-3, 4), less), ()), False)
        self.assertIs(accepts(("not within", steep, (-3, 4), just), heading), False)
        self.assertIs(accepts(("not within", steep, (-3, 4), less), heading), True)
        self.assertIs(accepts(("not within", steep, (-3, 4), less), EAST), False)

    def test_dead_at_headings_without_fractions(self):
        # Beside them the tangents have no bound, so some heading with fractions shows it.
        pale = numbers_five(0, 0, 0, Fraction(3, 5), Fraction(4, 5))
        for five in (FADED, pale):
            claim, paper = certify_within(five, (-HUGE, 1), (HUGE, 1))
            self.assertEqual(claim[0], "not within")
            self.assertIs(accepts(claim, paper), True)
            self.assertEqual(accepts(claim, ()), paper == ())

    def test_unlike_where_one_has_no_force(self):
        self.assertIs(accepts(("unlike", BRINK, TAME), SOUTH), False)
        self.assertIs(accepts(("unlike", TAME, BRINK), SOUTH), False)
        # The same tangent, but the opposite angle.
        self.assertIs(accepts(("unlike", STILL, WILD), SOUTH), True)
        self.assertIs(accepts(("unlike", STILL, WILD), NORTH), False)

    def test_sizes_of_tangents(self):
        mirror = numbers_five(0, Fraction(-1, 4), 0, 0, 0)
        self.assertIs(accepts(("not less", SLIGHT, mirror), EAST), False)
        wide = numbers_five(0, Fraction(-1, 2), 0, 0, 0)
        self.assertIs(accepts(("not less", wide, SLIGHT), EAST), True)
        self.assertIs(accepts(("not less", wide, SLIGHT), WEST), True)
        self.assertIs(accepts(("not less", wide, SLIGHT), NORTH), False)

    def test_twins_show_one_course_and_not_its_opposite(self):
        # wild: X = 2 + cos h, Y = - sin h; stiff: X = 3 + 2 cos h, Y = 0; faded: X = 1 + 2 cos h, Y = 0.
        self.assertIs(accepts(("twins", FADED), (NORTH, EAST)), True)
        self.assertIs(accepts(("twins", FADED), (NORTH, SOUTH)), False)
        self.assertIs(accepts(("twins", FADED), (EAST, EAST)), False)
        self.assertIs(accepts(("twins", WILD), (EAST, WEST)), False)
        self.assertIs(accepts(("twins", BRINK), (NORTH, SOUTH)), False)
        self.assertIs(accepts(("twins", numbers_five(0, 1, 0, 1, 0)), (SOUTH, heading_of_half(9))), True)
        # Dead at the cosine - 3 / 5, X being 6 / 5 + 2 cos h: no course is shown by both.
        dead = numbers_five(0, Fraction(6, 5), 0, 1, 0)
        self.assertIs(accepts(("twins", dead), (((-3, 5), (4, 5)), ((-3, 5), (-4, 5)))), False)
        self.assertIs(accepts(("twins", dead), (((-3, 5), (4, 5)), NORTH)), False)
        self.assertIs(accepts(("twins", dead), (NORTH, ((-3, 5), (4, 5)))), False)
        half_faded = numbers_five(0, 2, 0, 1, 0)
        self.assertEqual(ship_force_at(half_faded, SOUTH), (0, 0))
        self.assertIs(accepts(("twins", half_faded), (NORTH, SOUTH)), False)
        self.assertIs(accepts(("twins", half_faded), (SOUTH, NORTH)), False)
        self.assertIs(accepts(("twins", half_faded), (NORTH, WEST)), True)


class Truth(unittest.TestCase):
    """What is accepted is so, whoever wrote it: at headings, places and fives that are tried one by one."""

    def test_claims_and_papers_of_any_kind(self):
        stream, told = Stream(1), {}
        for _ in range(400):
            five, other, heading = stream.five(3, 4, 4), stream.five(3, 4, 4), stream.heading()
            low, high = sorted([stream.ratio(), stream.ratio()])
            for claim, paper in (
                (("within", five, fraction(low), fraction(high)), ()),
                (("not within", five, fraction(low), fraction(high)), heading), (("unlike", five, other), heading),
                (("less", five, other), ()), (("not less", five, other), heading),
                (("twins", five), (heading, stream.heading())), (("alike", five, other), ()),
            ):
                accepted = accepts(claim, paper)
                told[claim[0], accepted] = True
                if not accepted:
                    continue
                if claim[0] in SHOWING:
                    self.assertTrue(SHOWING[claim[0]](paper, *claim[1:]))
                for at in range(-6, 7):
                    self.look(claim, heading_of_half(Fraction(at, 3)))
        for form in ("within", "not within", "less", "not less"):
            self.assertIn((form, True), told)
            self.assertIn((form, False), told)

    def look(self, claim, heading):
        north, east = force_at(claim[1], heading)
        if claim[0] == "within":
            self.assertTrue(north > 0 and number(claim[2]) <= east / north <= number(claim[3]))
        if claim[0] == "less":
            other_north, other_east = force_at(claim[2], heading)
            self.assertLessEqual(abs(east / north), abs(other_east / other_north))


class Certificates(unittest.TestCase):
    def check(self, told, claims):
        """A claim with a paper that is accepted; of the two it is the one that is so."""
        self.assertIs(type(told), tuple)
        claim, paper = told
        self.assertIs(accepts(claim, paper), True)
        self.assertIn(claim, claims)
        for other in claims:
            if other != claim:
                for each in PAPERS[::9] + [(), paper]:
                    self.assertIs(accepts(other, each), False)
        if claim[0] not in SHOWING:
            self.assertEqual(paper, ())
        return claim[0]

    def test_by_hand(self):
        self.assertEqual(certify_word(BRINK), (("round word", BRINK, "dead"), ()))
        self.assertEqual(certify_twins(TAME), (("no twins", TAME), ()))
        self.assertEqual(certify_sea((PORT, CAPE), BETWEEN), (("in sea", (PORT, CAPE), BETWEEN), ((2, 3), (1, 3))))
        self.assertEqual(certify_readings(CALM), (("fit", CALM), STILL))
        self.assertEqual(certify_box(STEEL, ((MAGNET, 3),)), (("clears", STEEL, ((MAGNET, 3),), (2,)), ()))
        self.assertEqual(certify_box(STEEL, ((BALL, 3),)), (("none clears", STEEL, ((BALL, 3),)), ()))
        self.assertEqual(certify_over(STEEL, (PORT,)), (("round over", STEEL, (PORT,)), ()))
        self.assertEqual(certify_over(STEEL, (PORT, CAPE)), (("not round over", STEEL, (PORT, CAPE)), 1))
        self.assertEqual(certify_over(TURNED, (PORT, LEVEL))[0][0], "not round over")
        self.assertEqual(certify_reading(CALM, (SLANT, NIL, NIL)), (("sure", CALM, (SLANT, NIL, NIL)), ()))
        self.assertEqual(certify_reading(CALM, (SLANT, ONE, ONE)), (("not sure", CALM, (SLANT, ONE, ONE)), STILL))
        self.assertEqual(certify_within(TAME, (-3, 5), (3, 5)), (("within", TAME, (-3, 5), (3, 5)), ()))
        self.assertEqual(certify_alike(STIFF, STIFFER), (("alike", STIFF, STIFFER), ()))
        self.assertEqual(certify_less(SLIGHT, TAME), (("less", SLIGHT, TAME), ()))

    def test_the_fewest_counts(self):
        box = ((MAGNET, 3), (rows_of([0, 0, 0, Fraction(-1, 2)] + [0] * 8), 1))
        self.assertEqual(certify_box(STEEL, box)[0][3], (0, 1))
        self.assertEqual(certify_box(iron=POST, box=box)[0][3], (0, 0))

    def test_words_and_twins(self):
        stream, found = Stream(2), {}
        fives = [TAME, BRINK, WILD, BACK, STIFF, AGAINST, FADED, STILL]
        fives += [lined_five(Fraction(at, 3), STEER, share) for at in range(4) for share in (0, 1, 2, 5)]
        for five in fives + [stream.five(6, 5, 3) for _ in range(80)]:
            word = round_word(five)
            claims = [("round word", five, each) for each in ("round", "backward", "swings", "dead", "stuck")]
            self.check(certify_word(five=five), claims)
            form = self.check(certify_twins(five=five), [("twins", five), ("no twins", five)])
            found[word, form] = True
        for told in (("round", "no twins"), ("backward", "no twins"), ("swings", "twins"), ("stuck", "twins"),
                     ("dead", "twins"), ("dead", "no twins")):
            self.assertIn(told, found)

    def test_bounds(self):
        stream, found = Stream(3), []
        for _ in range(120):
            five = stream.five(3, 4, 8)
            low, high = [fraction(each) for each in sorted([-abs(stream.ratio(2, 2)), abs(stream.ratio(4, 2))])]
            told = certify_within(five=five, low=low, high=high)
            form = self.check(told, [("within", five, low, high), ("not within", five, low, high)])
            self.assertEqual(form == "within", is_within(five, low, high))
            found.append(form)
        self.assertEqual(len(set(found)), 2)

    def test_two_fives(self):
        stream, found = Stream(4), {}
        fives = [TAME, WILD, STIFF, STIFFER, AGAINST, STILL, SLIGHT, QUARTERS, BRINK]
        fives += [stream.five(3, 4, 9) for _ in range(6)]
        for five in fives:
            for other in fives:
                told = certify_alike(five=five, other=other)
                found[self.check(told, [("alike", five, other), ("unlike", five, other)])] = True
                if not is_ahead(five) or not is_ahead(other):
                    with self.assertRaises(NotAhead):
                        certify_less(five, other)
                    continue
                told = certify_less(five=five, other=other)
                form = self.check(told, [("less", five, other), ("not less", five, other)])
                self.assertEqual(form == "less", deviates_less(five, other))
                found[form] = True
        self.assertEqual(len(found), 4)

    def test_seas(self):
        stream, found = Stream(5), {}
        for _ in range(120):
            sea = tuple(((1, stream.whole(1, 3)), (stream.whole(-2, 2), 1)) for _ in range(stream.whole(1, 6)))
            place = ((1, stream.whole(1, 3)), fraction(Fraction(stream.whole(-4, 4), 2)))
            told = certify_sea(sea=sea, place=place)
            found[self.check(told, [("in sea", sea, place), ("out of sea", sea, place)])] = True
            iron = rows_of([stream.ratio(2, 3) / 3 for _ in range(12)])
            form = self.check(certify_over(iron=iron, sea=sea), [("round over", iron, sea), ("not round over", iron, sea)])
            self.assertEqual(form == "round over", word_over(iron, sea) == "round")
            found[form] = True
        self.assertEqual(len(found), 4)

    def test_readings(self):
        stream, found = Stream(6), {}
        for _ in range(250):
            five, width = stream.five(6, 5, 4), stream.whole(0, 1)
            readings = []
            for _ in range(stream.whole(1, 7)):
                heading = stream.heading()
                north, east = force_at(five, heading)
                tangent = east / north if north > 0 and stream.whole(0, 9) else stream.ratio()
                readings.append((heading, fraction(tangent), fraction(tangent + width * abs(stream.ratio()))))
            *readings, reading = readings
            readings = tuple(readings)
            form = self.check(certify_readings(readings=readings), [("fit", readings), ("clash", readings)])
            found[form] = True
            if form == "clash":
                with self.assertRaises(NoneFits):
                    certify_reading(readings, reading)
                continue
            claims = [("sure", readings, reading), ("not sure", readings, reading)]
            form = self.check(certify_reading(readings=readings, reading=reading), claims)
            self.assertEqual(form == "sure", reading_word(readings, reading) == "sure")
            found[form] = True
        self.assertEqual(len(found), 4)

    def test_a_reading_that_breaks_only_far_away(self):
        # All fives that fit with small numbers keep it; endless ones do not.
        for readings, reading in (
            (CALM[:1], (EAST, (-HUGE, 1), (HUGE, 1))), ((), (WEST, (-HUGE, 1), (HUGE, 1))),
            (((WEST, (-150, 1), (-150, 1)), (EAST, (450, 1), (450, 1))), (SOUTH, (-450, 1), (-440, 1))),
            (((WEST, (-150, 1), (-150, 1)), (EAST, (450, 1), (450, 1))), (SOUTH, (440, 1), (450, 1))),
        ):
            claim, paper = certify_reading(readings, reading)
            self.assertEqual(claim[0], "not sure")
            self.assertIs(accepts(claim, paper), True)

    def test_boxes(self):
        stream, found = Stream(7), {}
        for _ in range(80):
            box = tuple((rows_of([0, 0, 0, stream.whole(-2, 2), 0, 0, 0, stream.whole(-1, 1)] + [0] * 4),
                         stream.whole(1, 3)) for _ in range(stream.whole(1, 3)))
            iron = rows_of([0, 0, 0, stream.whole(-2, 2), 0, 0, 0, stream.whole(-1, 1)] + [0] * 4)
            told = certify_box(iron=iron, box=box)
            counts = clearing_counts(iron, box)
            found[self.check(told, [("none clears", iron, box), ("clears", iron, box, counts)])] = True
            self.assertEqual(told[0][0] == "clears", counts is not None)
        self.assertEqual(len(found), 2)


class CertificateArguments(Arguments, unittest.TestCase):
    MODULE = "ironships.certificates"
    CALLS = (
        (certify_word, ("five",)), (certify_twins, ("five",)), (certify_within, ("five", "low", "high")),
        (certify_alike, ("five", "other")), (certify_less, ("five", "other")), (certify_sea, ("sea", "place")),
        (certify_over, ("iron", "sea")), (certify_readings, ("readings",)),
        (certify_reading, ("readings", "reading")), (certify_box, ("iron", "box")),
    )
    RIGHT = {
        "five": TAME, "other": QUARTERS, "low": (-1, 2), "high": HALF, "sea": (PORT, CAPE), "place": BETWEEN,
        "iron": STEEL, "readings": CALM[1:], "reading": (SLANT, NIL, NIL), "box": ((MAGNET, 3),),
    }
    ERRORS = {
        "five": InvalidFive, "other": InvalidFive, "low": InvalidFraction, "high": InvalidFraction,
        "sea": InvalidSea, "place": InvalidPlace, "iron": InvalidIron, "readings": InvalidReadings,
        "reading": InvalidReading, "box": InvalidBox,
    }
    WRONG = {
        "five": [[NIL] * 5, (NIL,) * 4, (NIL,) * 6, (NIL, NIL, NIL, NIL, (2, 2)), (0,) * 5, NORTH],
        "other": [[NIL] * 5, (NIL,) * 4, (NIL, NIL, (1, -1), NIL, NIL), ONE, STEER],
        "low": [0, 1, [1, 2], (2, 4), (1, -2), (ONE, 0, NIL)],
        "high": [0, 1, [1, 2], (2, 4), (1, -2), NORTH],
        "sea": [(), [PORT], (PORT,) * 7, (PORT, None, PORT), PORT, (PORT, PORT, (NIL, ONE))],
        "place": [(NIL, ONE), ((-1, 2), ONE), [ONE, NIL], NOTHING],
        "iron": [(NOTHING,) * 2, [NOTHING] * 3, rows_of([-2] + [0] * 11), LEVEL],
        "readings": [list(CALM), CALM[0], CALM + CALM[:2], CALM + (None,), CALM[:2] + ((NORTH, ONE, NIL),)],
        "reading": [[NORTH, NIL, NIL], (NORTH, ONE, NIL), (NORTH, NIL), CALM],
        "box": [(), [(MAGNET, 3)], ((MAGNET, 3),) * 5, ((MAGNET, 3), (MAGNET, 4)), (MAGNET, 3)],
    }
    INDEXES = {
        "sea": index_by(is_place, 6), "readings": index_by(is_reading, 6, 0),
        "box": index_by(lambda each: type(each) is tuple and len(each) == 2 and is_piece(each[0])
                        and type(each[1]) is int and 1 <= each[1] <= 3, 4),
    }
    LET = {"readings": ("()",)}

    def test_what_is_told_last(self):
        refused(self, certify_within, {"five": TAME, "low": ONE, "high": HALF}, HighBelowLow, HALF)
        refused(self, certify_less, {"five": WILD, "other": None}, InvalidFive, None)
        refused(self, certify_reading, {"readings": NOISY, "reading": NIL}, InvalidReading, NIL)
        for call in (lambda: certify_less(WILD, TAME), lambda: certify_less(TAME, BRINK)):
            with self.assertRaises(NotAhead) as caught:
                call()
            self.assertEqual(vars(caught.exception), {})
        with self.assertRaises(NoneFits) as caught:
            certify_reading(NOISY, CALM[0])
        self.assertEqual(vars(caught.exception), {})

    def test_the_checker_stands_in_its_file(self):
        self.assertEqual(accepts.__module__, "ironships.checker")


if __name__ == "__main__":
    unittest.main()

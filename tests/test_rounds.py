"""Points [14] to [18] and the interface of rounds.py, with what points [3], [4] and [5] say of its arguments."""

import unittest
from fractions import Fraction
from math import gcd, isqrt

from arguments import Arguments
from ironships.errors import InvalidCourse, InvalidFive
from ironships.headings import heading_along, heading_of, is_course, is_heading, order_of
from ironships.needles import course_at
from ironships.numbers import is_surd
from ironships.rounds import (
    dead_headings, headings_of, round_numbers, round_word, twin_headings, unshown_course,
)
from samples import (
    EAST, HALF, HUGE, NIL, NORTH, ONE, SOUTH, STEER, WEST, Stream, dead_five, five_of, fraction, heading_of_half,
    lined_five, number, ship_force_at,
)

CHIEF = (NORTH, EAST, SOUTH, WEST)
FINE = 10 ** 80
COURSES = [(p, q) for p in range(-4, 5) for q in range(-4, 5) if gcd(p, q) == 1]


def numbers_of(five):
    """W, T1 and T2 as [14] tells them."""
    a, b, c, d, e = [number(each) for each in five]
    return (1 + a * a - d * d - e * e, b + a * c - d * b - e * c, c - a * b - e * b + d * c)


def word_of(five):
    """The round word as [14] tells it."""
    w, t1, t2 = numbers_of(five)
    n = t1 * t1 + t2 * t2
    a, b, c = [number(each) for each in five[:3]]
    if n < w * w:
        return "round" if w > 0 else "backward"
    if n > w * w:
        return "swings"
    if w != 0:
        return "dead"
    return "dead" if b * b + c * c <= 4 * (1 + a * a) else "stuck"


def nearly(surd):
    """A surd, nearly."""
    part, sign, (top, bottom) = surd
    return number(part) + sign * Fraction(isqrt(top * FINE * FINE // bottom), FINE)


def as_surds(heading):
    """A heading told by fractions as a pair of surds."""
    return tuple((each, 0, NIL) for each in heading)


def lined_fives():
    """Fives whose force lies along one line, through 0 or aside of it."""
    for a in (0, 1, Fraction(-3, 4)):
        for turn in (NORTH, EAST, WEST, STEER, ((-7, 25), (24, 25))):
            for share in (0, Fraction(1, 2), -1, Fraction(5, 4), 3, -7):
                yield lined_five(a, turn, share)
    # With u + w = 0 the force lies along i u.
    for b, c in ((0, 0), (0, 1), (0, -2), (0, 3)):
        yield five_of(0, b, c, -1, 0)
    for share in (0, Fraction(1, 2), 1, Fraction(-13, 4)):
        yield five_of(2, -2 * share, share, -1, -2)


def straight_fives(many):
    """Fives with W = 0 of which T1, T2 are mostly not 0."""
    stream = Stream(51)
    for _ in range(many):
        c, s = [number(each) for each in stream.heading()]
        a = stream.ratio(3, 2)
        yield five_of(a, stream.ratio(), stream.ratio(), c - a * s, a * c + s)


def samples():
    """Fives of all words."""
    stream = Stream(52)
    for at in range(150):
        yield stream.five(6, 5, 1 + at % 4)
        yield dead_five(stream.ratio(2), stream.ratio(2), stream.ratio(2), stream.heading())
    for five in straight_fives(60):
        yield five
    for five in lined_fives():
        yield five


class Numbers(unittest.TestCase):
    def test_by_hand(self):
        self.assertEqual(round_numbers(five_of(0, 0, 0, 0, 0)), (ONE, NIL, NIL))
        # W = 1 + 1 - 16 - 25, T1 = 2 + 3 - 8 - 15, T2 = 3 - 2 - 10 + 12.
        self.assertEqual(round_numbers(five=five_of(1, 2, 3, 4, 5)), ((-39, 1), (-18, 1), (3, 1)))
        self.assertEqual(round_numbers(five_of(0, HALF_NUMBER, 0, 0, 0)), (ONE, HALF, NIL))

    def test_they_are_what_the_complex_numbers_tell(self):
        for five in samples():
            self.assertEqual(round_numbers(five), tuple(fraction(each) for each in numbers_of(five)))


HALF_NUMBER = Fraction(1, 2)


class Words(unittest.TestCase):
    def test_words(self):
        seen = set()
        for five in samples():
            word = round_word(five)
            self.assertEqual(word, word_of(five))
            seen.add((word, numbers_of(five)[0] == 0))
        self.assertEqual(seen, {
            ("round", False), ("backward", False), ("swings", False), ("swings", True), ("dead", False),
            ("dead", True), ("stuck", True)})

    def test_edges(self):
        little = Fraction(1, HUGE)
        for b, word in ((1 - little, "round"), (1, "dead"), (1 + little, "swings")):
            for told in (five_of(0, b, 0, 0, 0), five_of(0, -b, 0, 0, 0), five_of(0, 0, b, 0, 0)):
                self.assertEqual(round_word(told), word)
        for d, word in ((1 - little, "round"), (1, "dead"), (1 + little, "backward"), (-1 - little, "backward")):
            self.assertEqual(round_word(five_of(0, 0, 0, d, 0)), word)
            self.assertEqual(round_word(five=five_of(0, 0, 0, 0, d)), word)
        for b, word in ((2 - little, "dead"), (2, "dead"), (2 + little, "stuck"), (-2, "dead"), (-3, "stuck")):
            self.assertEqual(round_word(five_of(0, b, 0, 1, 0)), word)
            self.assertEqual(round_word(five_of(0, b, little, 1, 0)), "swings")

    def test_a_card_that_goes_round_shows_each_course_by_one_heading(self):
        for five in samples():
            word = round_word(five)
            many = {len(told) for told in (headings_of(five, course) for course in COURSES) if told is not None}
            if word in ("round", "backward"):
                self.assertEqual(many, {1})
            else:
                self.assertLessEqual(many, {0, 1, 2})

    def test_the_course_turns_the_ships_way_or_the_other_one(self):
        halves = [Fraction(n, 40) for n in range(-400, 401)]
        headings = [heading_of(fraction(half)) for half in halves] + [SOUTH]
        for five in list(samples())[:40]:
            word, sign = round_word(five), {"round": 1, "backward": -1}.get(round_word(five))
            if word not in ("round", "backward"):
                continue
            w, t1, t2 = numbers_of(five)
            if abs(w) - abs(t1) - abs(t2) < Fraction(1, 2):
                continue
            forces = [ship_force_at(five, heading) for heading in headings]
            for (x, y), (z, t) in zip(forces, forces[1:] + forces[:1]):
                # The sine of the angle from one compass course to the next one, with cosine and sine along X, - Y.
                self.assertGreater(sign * (y * z - x * t), 0)

    def test_stuck_shows_one_course(self):
        for five in lined_fives():
            if round_word(five) == "stuck":
                courses = {course_at(five, heading) for heading in CHIEF + (STEER, heading_of_half(7))}
                self.assertEqual(len(courses), 1)


class Shown(unittest.TestCase):
    def check(self, five, course, told):
        """What is told is on the circle, shows the course, and is in order."""
        p, q = course
        keys = []
        for heading in told:
            self.assertTrue(isinstance(heading, tuple) and len(heading) == 2)
            self.assertTrue(is_surd(heading[0]) and is_surd(heading[1]))
            c, s = nearly(heading[0]), nearly(heading[1])
            self.assertLess(abs(c * c + s * s - 1), Fraction(1, 10 ** 70))
            a, b, m, d, e = [number(each) for each in five]
            x, y = b + (1 + d) * c + (a - e) * s, m + (a + e) * c + (d - 1) * s
            self.assertLess(abs(x * q + y * p), Fraction(abs(p) + abs(q), 10 ** 60))
            self.assertGreater(x * p - y * q, Fraction(1, 10 ** 30))
            keys.append(clockwise_key(c, s))
        self.assertEqual(keys, sorted(keys))
        self.assertEqual(len(set(told)), len(told))

    def test_headings_that_show_a_course(self):
        seen = set()
        for five in samples():
            for course in COURSES[::3]:
                told = headings_of(five, course)
                if told is None:
                    self.assertEqual(numbers_of(five), (0, 0, 0))
                    seen.add(None)
                    continue
                self.assertIsInstance(told, tuple)
                self.check(five, course, told)
                seen.add(len(told))
        self.assertEqual(seen, {None, 0, 1, 2})

    def test_none_told_by_fractions_is_missed(self):
        stream = Stream(53)
        for five in samples():
            for heading in (CHIEF[stream.whole(0, 3)], stream.heading()):
                course = course_at(five, heading)
                if course is None:
                    continue
                told = headings_of(five, course)
                if told is None:
                    self.assertEqual(numbers_of(five), (0, 0, 0))
                    p, q = course
                    # All headings with force show this course or the opposite one.
                    for other in CHIEF + (STEER,):
                        self.assertIn(course_at(five, other), (None, (p, q), (-p, -q)))
                else:
                    self.assertIn(as_surds(heading), told)

    def test_as_many_as_a_search_along_the_circle_finds(self):
        circle = [[number(each) for each in heading_of_half(Fraction(n, 64))] for n in range(64)]
        circle = [point for quarters in range(4) for point in [turned_by(quarters, each) for each in circle]]
        for five in list(samples())[:120]:
            # A line through 0 is crossed where a heading has no force, too, though no course is shown there.
            if round_word(five) == "dead":
                continue
            forces = [ship_force_at(five, (fraction(c), fraction(s))) for c, s in circle]
            for p, q in COURSES[::5]:
                worths = [(x * q + y * p, x * p - y * q) for x, y in forces]
                crossed = sum(
                    1 for (first, along), (second, after) in zip(worths, worths[1:] + worths[:1])
                    if first * second < 0 and along > 0 and after > 0)
                self.assertLessEqual(crossed, len(headings_of(five, (p, q))))

    def test_touching_lines_and_lines_that_miss(self):
        wild = five_of(0, 2, 0, 0, 0)
        # The courses with tangent up to 1 / root(3) = 0.577.. are shown twice, others not.
        self.assertEqual(len(headings_of(wild, (26, 15))), 2)
        self.assertEqual(len(headings_of(wild, (45, 26))), 0)
        self.assertEqual(headings_of(wild, (-1, 0)), ())
        self.assertEqual(headings_of(wild, (1, 0)), (as_surds(NORTH), as_surds(SOUTH)))
        # Round (5 / 3, 0) the courses (4, 3) and (4, - 3) just touch the circle.
        grazed = five_of(0, Fraction(5, 3), 0, 0, 0)
        self.assertEqual(headings_of(grazed, (4, 3)), (as_surds(((-3, 5), (4, 5))),))
        self.assertEqual(headings_of(grazed, (4, -3)), (as_surds(((-3, 5), (-4, 5))),))
        self.assertEqual(headings_of(grazed, (-4, -3)), ())

    def test_two_in_order(self):
        # Seen from (- B, - C), far outside the circle, each pair of points in its order.
        for b, c in ((3, 0), (0, 3), (-3, 0), (0, -3), (2, 2), (-2, 2), (2, -2), (-2, -2)):
            five = five_of(0, b, c, 0, 0)
            for course in COURSES:
                self.check(five, course, headings_of(course=course, five=five))

    def test_endlessly_many_or_none(self):
        stiff = five_of(0, 3, 0, 1, 0)
        self.assertIsNone(headings_of(stiff, (1, 0)))
        self.assertEqual(headings_of(stiff, (-1, 0)), ())
        self.assertEqual(headings_of(stiff, (0, 1)), ())
        self.assertEqual(headings_of(stiff, (7, 1)), ())
        backward = five_of(0, -3, 0, 1, 0)
        self.assertIsNone(headings_of(backward, (-1, 0)))
        self.assertEqual(headings_of(backward, (1, 0)), ())
        # With two dead headings both ways of the line are shown, with one just one of them.
        for b, told in ((1, [None, None]), (-1, [None, None]), (2, [None, ()]), (-2, [(), None]), (0, [None, None])):
            five = five_of(0, b, 0, 1, 0)
            self.assertEqual([headings_of(five, (1, 0)), headings_of(five, (-1, 0))], told)
            self.assertEqual(headings_of(five, (1, 1)), ())

    def test_a_dead_heading_shows_no_course(self):
        brink = five_of(0, 1, 0, 0, 0)
        for course in COURSES:
            self.assertNotIn(as_surds(SOUTH), headings_of(brink, course))
        self.assertEqual(headings_of(brink, (0, 1)), ())
        self.assertEqual(headings_of(brink, (1, 0)), (as_surds(NORTH),))
        self.assertEqual(headings_of(brink, (-1, 1)), ())

    def test_numbers_of_any_size(self):
        five = tuple(fraction(Fraction(at + 1, HUGE + at)) for at in range(5))
        course = (HUGE, HUGE - 1)
        self.check(five, course, headings_of(five, course))
        self.assertEqual(len(headings_of(five, course)), 1)


def turned_by(quarters, point):
    for _ in range(quarters):
        point = (-point[1], point[0])
    return point


def clockwise_key(c, s):
    """What grows with the angle clockwise from north."""
    if s >= 0:
        return (0, -c)
    return (1, c)


class Dead(unittest.TestCase):
    def test_one_heading_told_by_fractions(self):
        stream = Stream(54)
        lone = 0
        for at in range(150):
            heading = CHIEF[at % 4] if at % 3 == 0 else stream.heading()
            five = dead_five(stream.ratio(), stream.ratio(), stream.ratio(), heading)
            self.assertEqual(round_word(five), "dead")
            told = dead_headings(five)
            self.assertIn(as_surds(heading), told)
            if numbers_of(five)[0] != 0:
                self.assertEqual(told, (as_surds(heading),))
                lone += 1
        self.assertGreater(lone, 100)

    def test_headings_without_force_on_a_line(self):
        seen = set()
        for five in lined_fives():
            self.assertEqual(numbers_of(five), (0, 0, 0))
            told = dead_headings(five)
            a, b, c = [number(each) for each in five[:3]]
            size, edge = b * b + c * c, 4 * (1 + a * a)
            self.assertEqual(len(told), 2 if size < edge else 1 if size == edge else 0)
            self.assertEqual(bool(told), round_word(five) == "dead")
            keys = []
            for heading in told:
                self.assertTrue(is_surd(heading[0]) and is_surd(heading[1]))
                k, s = nearly(heading[0]), nearly(heading[1])
                self.assertLess(abs(k * k + s * s - 1), Fraction(1, 10 ** 70))
                for worth in ship_force_at(five, (fraction(k), fraction(s))):
                    self.assertLess(abs(worth), Fraction(1, 10 ** 60))
                keys.append(clockwise_key(k, s))
            self.assertEqual(keys, sorted(set(keys)))
            seen.add((len(told), any(heading[0][1] != 0 for heading in told)))
        self.assertEqual(seen, {(0, False), (1, False), (2, False), (2, True)})

    def test_none_elsewhere(self):
        for five in samples():
            if round_word(five) != "dead":
                self.assertEqual(dead_headings(five=five), ())
        self.assertEqual(dead_headings(five_of(0, 1 - Fraction(1, HUGE), 0, 0, 0)), ())


class Twins(unittest.TestCase):
    def test_there_are_twins_exactly_if_a_course_is_shown_twice(self):
        seen = set()
        for five in samples():
            word, w = round_word(five), numbers_of(five)[0]
            told = twin_headings(five)
            wanted = word in ("swings", "stuck") or word == "dead" and w == 0
            self.assertEqual(told is not None, wanted)
            seen.add((word, wanted))
            if told is not None:
                self.assertIsInstance(told, tuple)
                first, second = told
                self.assertTrue(is_heading(first) and is_heading(second))
                self.assertNotEqual(first, second)
                self.assertIsNotNone(course_at(five, first))
                self.assertEqual(course_at(five, first), course_at(five, second))
        self.assertEqual(len(seen), 6)

    def test_where_a_chord_only_touches_at_the_first_headings(self):
        # Lines from (- 1, - 1) through north and east touch the circle there.
        for b, c in ((1, 1), (1, -1), (-1, 1), (-1, -1)):
            five = five_of(0, -b, -c, 0, 0)
            first, second = twin_headings(five)
            self.assertNotEqual(first, second)
            self.assertEqual(course_at(five, first), course_at(five, second))

    def test_dead_at_the_first_headings(self):
        # X = 2 cos h, Y = 0: no force at east and west; Y = - 2 sin h, X = 0: none at north and south.
        for d in (1, -1):
            first, second = twin_headings(five=five_of(0, 0, 0, d, 0))
            self.assertNotEqual(first, second)
            self.assertIsNotNone(course_at(five_of(0, 0, 0, d, 0), first))
            self.assertEqual(course_at(five_of(0, 0, 0, d, 0), first), course_at(five_of(0, 0, 0, d, 0), second))

    def test_a_card_that_hardly_swings(self):
        five = five_of(0, 1 + Fraction(1, HUGE), 0, 0, 0)
        first, second = twin_headings(five)
        self.assertNotEqual(first, second)
        self.assertEqual(course_at(five, first), course_at(five, second))
        self.assertIsNone(twin_headings(five_of(0, 1, 0, 0, 0)))


class Unshown(unittest.TestCase):
    def test_a_course_that_no_heading_shows(self):
        for five in samples():
            told = unshown_course(five)
            if round_word(five) in ("round", "backward"):
                self.assertIsNone(told)
            else:
                self.assertTrue(is_course(told))
                self.assertEqual(headings_of(five, told), ())

    def test_edges(self):
        for b in (1, 1 + Fraction(1, HUGE), 2, HUGE):
            five = five_of(0, b, 0, 0, 0)
            self.assertEqual(headings_of(five, unshown_course(five=five)), ())
        self.assertIsNone(unshown_course(five_of(0, 1 - Fraction(1, HUGE), 0, 0, 0)))
        # Both ways of the line are shown here, so that none of them can be told.
        self.assertNotIn(unshown_course(five_of(0, 0, 0, 1, 0)), ((1, 0), (-1, 0)))


class OrderOfSurds(unittest.TestCase):
    def test_headings_told_by_fractions_are_in_order(self):
        # Through two headings told by fractions goes the line of the course from a point far outside.
        stream = Stream(55)
        many = 0
        for _ in range(300):
            first, second = stream.heading(), stream.heading()
            if first == second:
                continue
            ends = [[number(each) for each in heading] for heading in (first, second)]
            # Three times as far along the chord from the first end to the second one.
            far = [one + 3 * (two - one) for one, two in zip(*ends)]
            five = five_of(0, -far[0], far[1], 0, 0)
            course = course_at(five, first)
            told = headings_of(five, course)
            wanted = [first, second] if order_of(first, second) < 0 else [second, first]
            self.assertEqual(told, tuple(as_surds(heading) for heading in wanted))
            many += 1
        self.assertGreater(many, 200)

    def test_heading_along_is_what_a_plain_five_tells(self):
        for course in COURSES:
            told = headings_of(five_of(0, 0, 0, 0, 0), course)
            self.assertEqual(len(told), 1)
            if heading_along(course) is not None:
                self.assertEqual(told[0], as_surds(heading_along(course)))


class RoundArguments(Arguments, unittest.TestCase):
    MODULE = "ironships.rounds"
    CALLS = (
        (round_word, ("five",)), (round_numbers, ("five",)), (headings_of, ("five", "course")),
        (dead_headings, ("five",)), (twin_headings, ("five",)), (unshown_course, ("five",)),
    )
    RIGHT = {"five": (ONE, HALF, NIL, NIL, (-1, 3)), "course": (3, -5)}
    ERRORS = {"five": InvalidFive, "course": InvalidCourse}
    WRONG = {
        "five": [[NIL] * 5, (NIL,) * 4, (NIL,) * 6, (NIL, NIL, NIL, NIL, (2, 2)), (0,) * 5],
        "course": [(0, 0), [1, 0], (2, 2), (1, 2, 3), NORTH, (0, -2), 0],
    }
    LET = {"course": [repr(course) for course in ((1, 0), (-1, 0), (1, -2), (0, -1))]}


if __name__ == "__main__":
    unittest.main()

"""Points [7], [8] and [9] and the interface of headings.py, with what points [3], [4] and [5] say of its arguments."""

import unittest
from fractions import Fraction
from math import gcd, isqrt

from arguments import Arguments
from ironships.errors import InvalidCourse, InvalidFraction, InvalidHeading
from ironships.headings import (
    course_of, half_of, heading_along, heading_of, is_course, is_heading, mirrored, order_of, quarter_of, turned,
)
from samples import (
    EAST, HUGE, NIL, NORTH, ONE, SOUTH, STEER, STRANGE, WEST, Spiteful, Stream, fraction, heading_of_half, number,
)

# Halves as they come clockwise from north on; None is south.
LITTLE = Fraction(1, HUGE)
CLOCKWISE = [
    0, LITTLE, Fraction(1, 3), Fraction(1, 2), 1 - LITTLE, 1, 1 + LITTLE, 2, HUGE, None, -HUGE, -2, -1 - LITTLE, -1,
    LITTLE - 1, Fraction(-1, 2), -LITTLE,
]
FIRST = {0: 0, 1: 5, 2: 9, 3: 13}
COURSES = [repr(course) for course in ((1, 0), (-1, 0), (1, -2), (0, -1))]


def heading_at(half):
    return heading_of(None if half is None else fraction(half))


def complex_of(heading):
    return [number(each) for each in heading]


class WhatIsOne(unittest.TestCase):
    def test_headings(self):
        for value in (NORTH, EAST, SOUTH, WEST, STEER, ((-7, 25), (24, 25)), heading_of_half(HUGE)):
            self.assertIs(is_heading(value), True)
            self.assertIs(is_heading(value=value), True)

    def test_what_is_no_heading(self):
        wrong = [
            NIL, 0, (NIL, NIL), (ONE, ONE), ((3, 5), (3, 5)), [ONE, NIL], (ONE, [0, 1]), ((6, 10), (4, 5)), (1, 0),
            (ONE, NIL, NIL), ((-3, -5), (4, 5)), ((True, 1), NIL), ((2, 1), NIL), ((3, 5), (-4, 5), NIL), (ONE,),
        ]
        for value in STRANGE + wrong + [(each, NIL) for each in STRANGE] + [(ONE, each) for each in STRANGE]:
            with self.subTest(repr(value)[:40]):
                self.assertIs(is_heading(value), False)

    def test_courses(self):
        for value in ((1, 0), (0, 1), (-1, 0), (0, -1), (1, 1), (-3, 4), (7, -12), (HUGE, HUGE - 1), (1, -HUGE)):
            self.assertIs(is_course(value), True)
            self.assertIs(is_course(value=value), True)

    def test_what_is_no_course(self):
        wrong = [
            (0, 0), (2, 2), (0, 2), (-2, 0), (3, -6), (4, 6), (HUGE, HUGE), [1, 0], (1, 0, 0), (1,), 1, (True, 0),
            (1, True), (1, None), (ONE, NIL), (1, "1"), (1, Spiteful()), (1, (1, 1)), NORTH,
        ]
        for value in [each for each in STRANGE if repr(each) not in COURSES] + wrong:
            with self.subTest(repr(value)[:40]):
                self.assertIs(is_course(value), False)


class Halves(unittest.TestCase):
    def test_each_half_has_its_heading(self):
        for half in CLOCKWISE[:9] + CLOCKWISE[10:]:
            heading = heading_of(fraction(half))
            self.assertTrue(is_heading(heading))
            self.assertEqual(heading, heading_of_half(half))
            self.assertEqual(half_of(heading), fraction(half))

    def test_south_is_none(self):
        self.assertEqual(heading_of(None), SOUTH)
        self.assertEqual(heading_of(half=None), SOUTH)
        self.assertIsNone(half_of(SOUTH))

    def test_the_chief_headings(self):
        self.assertEqual([heading_of(half) for half in (NIL, ONE, (-1, 1))], [NORTH, EAST, WEST])
        self.assertEqual([half_of(heading) for heading in (NORTH, EAST, WEST)], [NIL, ONE, (-1, 1)])

    def test_halves_of_many_headings(self):
        for p in range(-20, 21):
            for q in range(-20, 21):
                size = isqrt(p * p + q * q)
                if size > 0 and size * size == p * p + q * q:
                    heading = (fraction(Fraction(p, size)), fraction(Fraction(q, size)))
                    self.assertEqual(heading_of(half_of(heading)), heading)


class Turning(unittest.TestCase):
    def test_the_sum_of_both_angles(self):
        stream = Stream(11)
        for _ in range(300):
            heading, other = stream.heading(), stream.heading()
            (c, s), (k, t) = complex_of(heading), complex_of(other)
            told = turned(heading, other)
            self.assertEqual(complex_of(told), [c * k - s * t, s * k + c * t])
            self.assertTrue(is_heading(told))
            self.assertEqual(turned(other, heading), told)
            self.assertEqual(turned(told, mirrored(other)), heading)

    def test_by_chief_headings(self):
        self.assertEqual(turned(STEER, NORTH), STEER)
        self.assertEqual(turned(STEER, EAST), ((-4, 5), (3, 5)))
        self.assertEqual(turned(STEER, SOUTH), ((-3, 5), (-4, 5)))
        self.assertEqual(turned(heading=STEER, other=WEST), ((4, 5), (-3, 5)))
        self.assertEqual(turned(SOUTH, SOUTH), NORTH)

    def test_mirrored(self):
        self.assertEqual(mirrored(STEER), ((3, 5), (-4, 5)))
        self.assertEqual([mirrored(each) for each in (NORTH, EAST, SOUTH, WEST)], [NORTH, WEST, SOUTH, EAST])
        self.assertEqual(mirrored(mirrored(((-7, 25), (24, 25)))), ((-7, 25), (24, 25)))


class Order(unittest.TestCase):
    def test_quarters_have_their_begin_and_not_their_end(self):
        for at, half in enumerate(CLOCKWISE):
            quarter = max(each for each in FIRST if FIRST[each] <= at)
            self.assertIs(quarter_of(heading_at(half)), quarter)
        self.assertEqual([quarter_of(each) for each in (NORTH, EAST, SOUTH, WEST)], [0, 1, 2, 3])

    def test_the_half_behind_the_begin_is_from_0_on_below_1(self):
        begins = (NORTH, EAST, SOUTH, WEST)
        stream = Stream(12)
        for _ in range(300):
            heading = stream.heading()
            behind = turned(heading, mirrored(begins[quarter_of(heading)]))
            self.assertTrue(0 <= number(half_of(behind)) < 1)

    def test_headings_come_clockwise_from_north_on(self):
        headings = [heading_at(half) for half in CLOCKWISE]
        for at, heading in enumerate(headings):
            for other_at, other in enumerate(headings):
                self.assertIs(order_of(heading, other), (at > other_at) - (at < other_at))

    def test_order_of_many(self):
        stream = Stream(13)
        for _ in range(300):
            heading, other = stream.heading(), stream.heading()
            keys = []
            for each in (heading, other):
                half = half_of(each)
                # From north to south the halves are from 0 on, then they come from far below up to 0.
                keys.append((1, 0) if half is None else (0 if half[0] >= 0 else 2, number(half)))
            self.assertIs(order_of(heading, other), (keys[0] > keys[1]) - (keys[0] < keys[1]))
            self.assertIs(order_of(other=heading, heading=other), (keys[0] < keys[1]) - (keys[0] > keys[1]))


class Courses(unittest.TestCase):
    def test_each_heading_has_one_course(self):
        stream = Stream(14)
        for heading in [heading_at(half) for half in CLOCKWISE] + [stream.heading() for _ in range(200)]:
            p, q = course_of(heading)
            self.assertTrue(is_course((p, q)))
            c, s = complex_of(heading)
            self.assertEqual(p * s, q * c)
            self.assertGreater(p * c + q * s, 0)
            self.assertEqual(heading_along((p, q)), heading)

    def test_a_course_has_a_heading_exactly_if_its_size_is_whole(self):
        for p in range(-25, 26):
            for q in range(-25, 26):
                if gcd(p, q) != 1:
                    continue
                size = isqrt(p * p + q * q)
                told = heading_along((p, q))
                if size * size != p * p + q * q:
                    self.assertIsNone(told)
                else:
                    self.assertEqual(told, (fraction(Fraction(p, size)), fraction(Fraction(q, size))))
                    self.assertEqual(course_of(told), (p, q))

    def test_courses_of_any_size(self):
        self.assertIsNone(heading_along((HUGE, HUGE - 1)))
        self.assertIsNone(heading_along((1, HUGE)))
        p, q, size = HUGE * HUGE - 1, 2 * HUGE, HUGE * HUGE + 1
        common = gcd(p, q)
        course = (p // common, q // common)
        self.assertEqual(heading_along(course), (fraction(Fraction(p, size)), fraction(Fraction(q, size))))
        self.assertEqual(course_of(heading_along(course=course)), course)

    def test_the_chief_courses(self):
        told = [course_of(each) for each in (NORTH, EAST, SOUTH, WEST)]
        self.assertEqual(told, [(1, 0), (0, 1), (-1, 0), (0, -1)])
        self.assertEqual([heading_along(each) for each in told], [NORTH, EAST, SOUTH, WEST])


class HeadingArguments(Arguments, unittest.TestCase):
    MODULE = "ironships.headings"
    CALLS = (
        (heading_of, ("half",)), (half_of, ("heading",)), (turned, ("heading", "other")), (mirrored, ("heading",)),
        (quarter_of, ("heading",)), (order_of, ("heading", "other")), (course_of, ("heading",)),
        (heading_along, ("course",)),
    )
    RIGHT = {"half": (1, 2), "heading": STEER, "other": SOUTH, "course": (3, 4)}
    ERRORS = {
        "half": InvalidFraction, "heading": InvalidHeading, "other": InvalidHeading, "course": InvalidCourse,
    }
    WRONG = {
        "half": [0, 1, [1, 2], NORTH, (2, 4), (1, -2), (3, 3)],
        "heading": [(NIL, NIL), [ONE, NIL], (ONE, ONE), ((6, 10), (4, 5)), NIL, (ONE, NIL, NIL)],
        "other": [(ONE, (1, HUGE)), [NIL, ONE], (1, 0), (NORTH, NORTH)],
        "course": [(0, 0), [1, 0], (2, 2), (1, 2, 3), NORTH, (0, -2), 0],
    }
    LET = {"half": ["None"], "course": COURSES}

    def test_the_predicates_are_defined_where_they_are_listed(self):
        self.assertEqual([is_heading.__module__, is_course.__module__], [self.MODULE] * 2)


if __name__ == "__main__":
    unittest.main()

"""Points [12] and [13] and the interface of needles.py, with what points [3], [4] and [5] say of its arguments."""

import unittest
from fractions import Fraction

from arguments import Arguments
from ironships.errors import InvalidFive, InvalidHeading
from ironships.headings import is_course, turned
from ironships.irons import five_of as five_of_iron
from ironships.needles import course_at, deviation_word, east_part, force_square, north_part, tangent_at
from samples import (
    EAST, HALF, HUGE, NIL, NORTH, ONE, SOUTH, STEER, WEST, Stream, dead_five, five_of, force_at, fraction,
    heading_of_half, number, rows_of, ship_force_at,
)

NOUGHTS = (NIL,) * 5
CHIEF = (NORTH, EAST, SOUTH, WEST)


def samples(seed, many=200):
    """Fives beside headings, the chief ones among them, some without force or without a part to the north."""
    stream = Stream(seed)
    for at in range(many):
        heading = CHIEF[at % 4] if at % 3 == 0 else stream.heading()
        yield stream.five(), heading
        a, d, e = stream.ratio(), stream.ratio(), stream.ratio()
        yield dead_five(a, d, e, heading), heading
        # At north and south K is 0 here, and L is A.
        yield five_of(stream.ratio(), 0, 0, -1, 0), CHIEF[at % 2 * 2]


class Force(unittest.TestCase):
    def test_both_parts_and_the_square(self):
        for five, heading in samples(31):
            k, m = force_at(five, heading)
            self.assertEqual(north_part(five, heading), fraction(k))
            self.assertEqual(east_part(five, heading), fraction(m))
            self.assertEqual(force_square(five, heading), fraction(k * k + m * m))

    def test_each_number_alone_at_the_chief_headings(self):
        told = {
            0: [(1, 2), (1, 2), (1, 2), (1, 2)], 1: [(3, 0), (1, 2), (-1, 0), (1, -2)],
            2: [(1, 2), (-1, 0), (1, -2), (3, 0)], 3: [(3, 0), (-1, 0), (3, 0), (-1, 0)],
            4: [(1, 2), (1, -2), (1, 2), (1, -2)],
        }
        for at, parts in told.items():
            five = tuple((2, 1) if place == at else NIL for place in range(5))
            for heading, (north, east) in zip(CHIEF, parts):
                self.assertEqual(north_part(five=five, heading=heading), (north, 1))
                self.assertEqual(east_part(heading=heading, five=five), (east, 1))

    def test_a_five_of_noughts(self):
        for heading in CHIEF + (STEER,):
            self.assertEqual((north_part(NOUGHTS, heading), east_part(NOUGHTS, heading)), (ONE, NIL))
            self.assertEqual(force_square(NOUGHTS, heading), ONE)
            self.assertEqual(deviation_word(NOUGHTS, heading), "plain")
            self.assertEqual(tangent_at(NOUGHTS, heading), NIL)

    def test_numbers_of_any_size(self):
        five = tuple(fraction(Fraction(HUGE + at, HUGE - 2 * at)) for at in range(5))
        heading = heading_of_half(Fraction(HUGE, HUGE - 9))
        k, m = force_at(five, heading)
        self.assertEqual((north_part(five, heading), east_part(five, heading)), (fraction(k), fraction(m)))
        self.assertEqual(tangent_at(five, heading), fraction(m / k))


class Words(unittest.TestCase):
    def test_words(self):
        seen = set()
        for five, heading in samples(32):
            north, east = force_at(five, heading)
            if east != 0:
                word = "east" if east > 0 else "west"
            else:
                word = {True: "plain", False: "against"}[north > 0] if north != 0 else "dead"
            self.assertEqual(deviation_word(five, heading), word)
            seen.add((word, (north > 0) - (north < 0)))
        # East and west are told whatever the part to the north is.
        wanted = {("east", 1), ("east", 0), ("east", -1), ("west", 1), ("west", 0), ("west", -1), ("dead", 0)}
        self.assertLessEqual(wanted, seen)

    def test_without_a_part_to_the_east(self):
        for b, word in ((Fraction(-1, 2), "plain"), (-1, "dead"), (-2, "against"), (1, "plain")):
            self.assertEqual(deviation_word(five_of(0, b, 0, 0, 0), NORTH), word)
            self.assertEqual(deviation_word(five_of(0, -b, 0, 0, 0), SOUTH), word)
        self.assertEqual(deviation_word(heading=SOUTH, five=five_of(0, 1 - Fraction(1, HUGE), 0, 0, 0)), "plain")
        self.assertEqual(deviation_word(five_of(0, 1 + Fraction(1, HUGE), 0, 0, 0), SOUTH), "against")
        self.assertEqual(deviation_word(five_of(Fraction(1, HUGE), 1, 0, 0, 0), SOUTH), "east")
        self.assertEqual(deviation_word(five_of(-Fraction(1, HUGE), 1, 0, 0, 0), SOUTH), "west")


class Tangents(unittest.TestCase):
    def test_tangents(self):
        signs = set()
        for five, heading in samples(33):
            north, east = force_at(five, heading)
            self.assertEqual(tangent_at(five, heading), None if north == 0 else fraction(east / north))
            signs.add((north > 0) - (north < 0))
        self.assertEqual(signs, {-1, 0, 1})

    def test_with_a_part_to_the_north_below_nought(self):
        # K = 1 - 3, L = 1.
        self.assertEqual(tangent_at(five_of(1, -3, 0, 0, 0), NORTH), (-1, 2))

    def test_without_one(self):
        self.assertIsNone(tangent_at(five_of(1, -1, 0, 0, 0), NORTH))
        self.assertIsNone(tangent_at(five_of(0, -1, 0, 0, 0), NORTH))
        self.assertIsNone(tangent_at(heading=((-3, 5), (4, 5)), five=five_of(0, Fraction(5, 3), 0, 0, 0)))


class Courses(unittest.TestCase):
    def test_along_the_force_seen_from_the_ship(self):
        for five, heading in samples(34):
            x, y = ship_force_at(five, heading)
            told = course_at(five, heading)
            if x == 0 and y == 0:
                self.assertIsNone(told)
                continue
            self.assertTrue(is_course(told))
            self.assertEqual(told[0] * -y, told[1] * x)
            self.assertGreater(told[0] * x - told[1] * y, 0)

    def test_none_without_force(self):
        stream = Stream(35)
        for _ in range(60):
            heading = stream.heading()
            five = dead_five(stream.ratio(), stream.ratio(), stream.ratio(), heading)
            self.assertIsNone(course_at(five, heading))
            self.assertEqual(deviation_word(five, heading), "dead")
            self.assertEqual(force_square(five, heading), NIL)
            self.assertIsNone(tangent_at(five, heading))

    def test_the_heading_is_the_course_and_the_deviation_together(self):
        for five, heading in samples(36):
            north, east = force_at(five, heading)
            if (north, east) == (0, 0):
                continue
            p, q = course_at(five, heading)
            c, s = [number(each) for each in heading]
            # The course turned by the deviation, both as complex numbers, has the direction of the heading.
            fore, side = p * north - q * east, p * east + q * north
            self.assertEqual(fore * s, side * c)
            self.assertGreater(fore * c + side * s, 0)

    def test_a_plain_needle_shows_the_heading_itself(self):
        for heading in CHIEF + (STEER, turned(STEER, STEER)):
            p, q = course_at(five=NOUGHTS, heading=heading)
            c, s = [number(each) for each in heading]
            self.assertEqual(p * s, q * c)
            self.assertGreater(p * c + q * s, 0)

    def test_the_compass_shows_what_the_iron_does(self):
        iron = rows_of([Fraction(1, 5), 0, Fraction(1, 10), 2, 0, Fraction(-1, 5), 0, -1, 0, 0, Fraction(1, 5), 3])
        five = five_of_iron(iron, ((10, 1), (20, 1)))
        # At east the field is (0, - 10, 20), and so (4, - 9) at the compass, forward and to starboard.
        self.assertEqual(course_at(five, EAST), (4, 9))


class NeedleArguments(Arguments, unittest.TestCase):
    MODULE = "ironships.needles"
    CALLS = tuple((call, ("five", "heading")) for call in (
        north_part, east_part, force_square, deviation_word, tangent_at, course_at))
    RIGHT = {"five": (ONE, HALF, NIL, NIL, (-1, 3)), "heading": STEER}
    ERRORS = {"five": InvalidFive, "heading": InvalidHeading}
    WRONG = {
        "five": [[NIL] * 5, (NIL,) * 4, (NIL,) * 6, (NIL, NIL, NIL, NIL, (2, 2)), (0,) * 5, (NIL, (1, 0)) + (NIL,) * 3],
        "heading": [(NIL, NIL), [ONE, NIL], (ONE, ONE), ((6, 10), (4, 5)), NIL, (ONE, NIL, NIL)],
    }


if __name__ == "__main__":
    unittest.main()

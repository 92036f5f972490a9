"""Points [40] to [44] and the interface of notes.py, with what points [3], [4] and [5] say of its arguments."""

import unittest
from fractions import Fraction
from itertools import combinations

from arguments import Arguments, index_by, refused
from elimination import ends_of, is_possible
from ironships.bounds import is_ahead
from ironships.errors import (
    InvalidFive, InvalidHeading, InvalidIndex, InvalidReading, InvalidReadings, NoneFits,
)
from ironships.irons import is_five
from ironships.notes import (
    any_five, are_clash_weights, clash_weights, clashing, fits, is_reading, keeps, needless_readings, number_range,
    reading_of, reading_word, settled_numbers,
)
from samples import (
    EAST, HALF, HUGE, NIL, NORTH, ONE, SOUTH, STEER, STRANGE, WEST, Stream, five_of, force_at, fraction,
    heading_of_half, number,
)

SLANT = ((4, 5), (3, 5))
STILL, STEEP = five_of(0, 0, 0, 0, 0), five_of(0, Fraction(1, 2), 0, 0, 0)
CALM = tuple((heading, NIL, NIL) for heading in (NORTH, EAST, SOUTH, WEST, STEER))
NOISY = CALM + ((SLANT, ONE, ONE),)
LITTLE = Fraction(1, 10 ** 40)


def at(heading, low, high=None):
    """A reading with bounds that are Python's numbers."""
    return (heading, fraction(low), fraction(low if high is None else high))


def rows_of(reading):
    """The three numbers of a reading as [40] tells them: what stands with A to E, and a number by itself."""
    heading, low, high = reading
    c, s = [number(each) for each in heading]
    double, doubled = c * c - s * s, 2 * s * c
    north, east = (0, c, -s, double, -doubled, 1), (1, s, c, doubled, double, 0)
    return [
        north, tuple(y - number(low) * x for x, y in zip(north, east)),
        tuple(number(high) * x - y for x, y in zip(north, east)),
    ]


def all_rows(readings):
    return [row for reading in readings for row in rows_of(reading)]


def is_kept(five, reading):
    """Whether the five keeps the reading, by the force of [12]."""
    north, east = force_at(five, reading[0])
    return north >= 0 and number(reading[1]) * north <= east <= number(reading[2]) * north


def show_a_clash(readings, weights):
    """Whether weights, three for each reading, are clash weights."""
    weights = [number(weight) for triple in weights for weight in triple]
    totals = [sum(weight * row[at] for weight, row in zip(weights, all_rows(readings))) for at in range(6)]
    return min(weights, default=0) >= 0 and totals[:5] == [0] * 5 and totals[5] < 0


def random_reading(stream, five, width):
    """Mostly what may have been read with this five."""
    heading = stream.heading() if stream.whole(0, 2) else heading_of_half(Fraction(stream.whole(-3, 3), 2))
    north, east = force_at(five, heading)
    tangent = east / north if north > 0 and stream.whole(0, 9) else Fraction(stream.whole(-4, 4), 2)
    below, above = [Fraction(stream.whole(0, 2) * width, 3) for _ in range(2)]
    return at(heading, tangent - below, tangent + above)


def random_readings(seed, rounds, most=6):
    """Readings, and one more beside them."""
    stream = Stream(seed)
    for _ in range(rounds):
        five, width = stream.five(6, 5, 4), stream.whole(0, 1)
        told = tuple(random_reading(stream, five, width) for _ in range(stream.whole(0, most)))
        yield told, random_reading(stream, five, width)


def shortest_clash(readings):
    """The shortest indexes, of these the least, of readings that clash alone, by elimination."""
    for many in range(1, len(readings) + 1):
        for picked in combinations(range(len(readings)), many):
            if not is_possible(all_rows([readings[index] for index in picked])):
                return picked
    return None


class WhatIsOne(unittest.TestCase):
    def test_readings(self):
        for value in CALM + NOISY + (at(WEST, -1, 1), at(STEER, -HUGE, HUGE), at(SOUTH, LITTLE)):
            self.assertIs(is_reading(value), True)
            self.assertIs(is_reading(value=value), True)

    def test_no_readings(self):
        for value in STRANGE + [
            (), (NORTH, NIL), (NORTH, NIL, NIL, NIL), [NORTH, NIL, NIL], (NORTH, ONE, HALF), (NORTH, NIL, (-1, HUGE)),
            (NORTH, fraction(LITTLE), NIL), ((NIL, NIL), NIL, NIL), (NORTH, 0, 0), (NORTH, NIL, (2, 4)),
            (NORTH, (0, 2), NIL), (list(NORTH), NIL, NIL), (NORTH, [0, 1], NIL), (NIL, NIL, NIL), CALM,
            (NORTH, NIL, None), (None, NIL, NIL), ((ONE, ONE), NIL, ONE),
        ]:
            with self.subTest(repr(value)[:60]):
                self.assertIs(is_reading(value), False)


class Keeping(unittest.TestCase):
    def test_by_hand(self):
        self.assertIs(keeps(STEEP, (EAST, (1, 4), (3, 4))), True)
        self.assertIs(keeps(STEEP, (EAST, (3, 4), (1, 1))), False)
        self.assertIs(keeps(STEEP, (EAST, HALF, HALF)), True)
        self.assertIs(keeps(STEEP, at(EAST, Fraction(1, 2) + LITTLE, 1)), False)
        self.assertIs(keeps(STEEP, at(EAST, 0, Fraction(1, 2) - LITTLE)), False)
        self.assertIs(fits(STILL, CALM), True)
        self.assertIs(fits(STEEP, CALM), False)
        self.assertIs(fits(STEEP, ()), True)
        self.assertIs(fits(five=STEEP, readings=CALM[::2][:2]), True)

    def test_without_force(self):
        # Dead at south: each reading there is kept.
        brink = five_of(0, 1, 0, 0, 0)
        for low, high in ((0, 0), (-1, 1), (5, 7), (-HUGE, -HUGE)):
            self.assertIs(keeps(brink, at(SOUTH, low, high)), True)
        self.assertIs(keeps(brink, at(NORTH, 5, 7)), False)

    def test_a_part_to_the_north_below_nought(self):
        # At south K is - 1 and L is 0, so the tangent would be 0.
        wild = five_of(0, 2, 0, 0, 0)
        for low, high in ((0, 0), (-1, 1), (-9, 9)):
            self.assertIs(keeps(five=wild, reading=at(SOUTH, low, high)), False)
        # K 0, L 1: no tangent at all.
        for low, high in ((0, 0), (-HUGE, HUGE)):
            self.assertIs(keeps(five_of(1, 1, 0, 0, 0), at(SOUTH, low, high)), False)

    def test_any_fives_and_readings(self):
        stream, told = Stream(1), []
        for readings, further in random_readings(2, 150):
            five = stream.five(6, 5, 6)
            for reading in readings + (further,):
                told.append(keeps(five, reading))
                self.assertIs(told[-1], is_kept(five, reading))
            self.assertIs(fits(five, readings), all(is_kept(five, reading) for reading in readings))
        self.assertGreater(min(told.count(True), told.count(False)), 50)


class Fitting(unittest.TestCase):
    def check(self, readings):
        """Whether some five fits; the five, or the weights, are looked at."""
        five, weights = any_five(readings), clash_weights(readings)
        self.assertEqual(five is None, weights is not None)
        if five is not None:
            self.assertTrue(is_five(five) and all(is_kept(five, reading) for reading in readings))
            self.assertTrue(fits(five, readings))
            return True
        self.assertIs(type(weights), tuple)
        self.assertEqual([(type(each), len(each)) for each in weights], [(tuple, 3)] * len(readings))
        self.assertTrue(show_a_clash(readings, weights))
        self.assertIs(are_clash_weights(readings, weights), True)
        return False

    def test_by_hand(self):
        self.assertEqual(any_five(CALM), STILL)
        self.assertIsNone(clash_weights(CALM))
        self.assertIs(self.check(()), True)
        self.assertIs(self.check(NOISY), False)
        self.assertIsNone(any_five(readings=NOISY))
        self.assertIs(self.check(CALM + CALM[:1]), True)
        self.assertIs(self.check(NOISY[1:]), True)

    def test_two_tangents_at_one_heading(self):
        # Both are kept just without force there.
        both = (at(EAST, 1), at(EAST, -1))
        self.assertIs(self.check(both), True)
        north, east = force_at(any_five(both), EAST)
        self.assertEqual((north, east), (0, 0))
        # At so many headings there cannot be none.
        many = [heading_of_half(Fraction(k, 3)) for k in (0, 1, 2)]
        self.assertIs(self.check(tuple(at(heading, t) for heading in many for t in (1, -1))), False)
        self.assertIs(self.check(tuple(at(heading, t) for heading in many[:2] for t in (1, -1))), True)

    def test_a_part_to_the_north_that_cannot_be_from_nought_on(self):
        # K and L turned by 0, 90, 180 and 270 degrees add up to 4 and 4 A; A is 2 by tangents of 2.
        readings = tuple(at(heading, 2) for heading in (NORTH, EAST, SOUTH, WEST))
        self.assertIs(self.check(readings), True)
        five = any_five(readings)
        self.assertEqual(five[0], (2, 1))
        self.assertIs(self.check(readings + (at(STEER, 2), at(SLANT, 2))), True)
        self.assertIs(self.check(readings + (at(STEER, 2), at(SLANT, 2 + LITTLE))), False)

    def test_just_where_elimination_lets_it(self):
        told = []
        for readings, _ in random_readings(3, 400, 6):
            told.append(self.check(readings))
            self.assertIs(told[-1], is_possible(all_rows(readings)))
        self.assertGreater(min(told.count(True), told.count(False)), 30)

    def test_numbers_of_any_size(self):
        stream = Stream(4)
        five = tuple(fraction(Fraction(stream.whole(-9, 9) * HUGE + 1, 30 * HUGE + 7)) for _ in range(5))
        headings = [heading_of_half(Fraction(HUGE // 10 ** 300 + k, 3 ** 200 + k * k)) for k in range(3)]
        headings += [heading_of_half(k) for k in (1, -2, Fraction(1, 3))]
        readings = tuple(reading_of(five, heading) for heading in headings)
        self.assertEqual(any_five(readings), five)
        self.assertEqual(settled_numbers(readings), (0, 1, 2, 3, 4))
        heading, tangent, _ = readings[5]
        off = at(heading, number(tangent) + Fraction(1, HUGE * HUGE))
        self.assertIs(self.check(readings[:5] + (off,)), False)


class ClashWeights(unittest.TestCase):
    def test_right_ones(self):
        weights = clash_weights(NOISY)
        for factor in (1, 7, Fraction(1, HUGE)):
            more = tuple(tuple(fraction(number(each) * factor) for each in triple) for triple in weights)
            self.assertIs(are_clash_weights(NOISY, more), True)
            self.assertIs(are_clash_weights(readings=NOISY, value=more), True)
        # By hand: L at slant is a sum of L at the other headings; with K = 1 there 1 K - L would have to be 0.
        self.assertIs(are_clash_weights((), ()), False)

    def test_wrong_ones(self):
        weights = clash_weights(NOISY)
        noughts = ((NIL,) * 3,) * 6
        changed = [weights[:5], weights + (weights[0],), list(weights), noughts, None, (), weights[::-1],
                   tuple(list(triple) for triple in weights), tuple(triple[:2] for triple in weights),
                   tuple(triple + (NIL,) for triple in weights)]
        for index in range(6):
            for place in range(3):
                for value in (None, 0, [0, 1], (2, 4), fraction(number(weights[index][place]) + LITTLE),
                              fraction(number(weights[index][place]) - LITTLE), (-1, 1)):
                    triple = weights[index][:place] + (value,) + weights[index][place + 1:]
                    changed.append(weights[:index] + (triple,) + weights[index + 1:])
        for value in changed:
            with self.subTest(repr(value)[:80]):
                self.assertIs(are_clash_weights(NOISY, value), False)
        below = tuple(tuple(fraction(-number(each)) for each in triple) for triple in weights)
        self.assertIs(are_clash_weights(NOISY, below), False)

    def test_weights_below_nought(self):
        # The four K at north, east, south and west add up to 4, so that their opposites are below 0.
        below, tiny = (((-1, 1), NIL, NIL),) * 4, (fraction(-LITTLE), NIL, NIL)
        self.assertIs(are_clash_weights(CALM[:4], below), False)
        self.assertIs(are_clash_weights(CALM[:4], (tiny,) * 4), False)
        # Twice the same reading: what the one has more is taken away by the other one.
        four = tuple(NOISY[index] for index in (0, 1, 2, 5))
        weights = clash_weights(four)
        more, less = [tuple(fraction(number(each) + two) for each in weights[3]) for two in (2, 0)], ((-2, 1),) * 3
        self.assertIs(are_clash_weights(four + four[3:], weights[:3] + (more[1], (NIL,) * 3)), True)
        self.assertTrue(show_a_clash(four, weights))
        self.assertIs(are_clash_weights(four + four[3:], weights[:3] + (more[0], less)), False)

    def test_any_value(self):
        for value in STRANGE:
            self.assertIs(are_clash_weights(NOISY, value), False)
            self.assertIs(are_clash_weights(CALM, value), False)
            self.assertIs(are_clash_weights((), value), False)
            self.assertIs(are_clash_weights(CALM[:1], (value,)), False)
            self.assertIs(are_clash_weights(CALM[:1], ((NIL, value, NIL),)), False)

    def test_none_for_readings_that_fit(self):
        # All in it is 0 but the number, which is above 0: the opposite tangents at one heading.
        both = (at(EAST, 1), at(EAST, -1))
        self.assertIs(are_clash_weights(both, ((NIL, NIL, ONE), (NIL, ONE, NIL))), False)
        # A number below 0, but not without the five's numbers: L - 2 K at north is - 2, and more.
        self.assertIs(are_clash_weights((at(NORTH, 2),), ((NIL, ONE, NIL),)), False)


class Clashing(unittest.TestCase):
    def test_by_hand(self):
        self.assertIsNone(clashing(CALM))
        self.assertIsNone(clashing(()))
        # By north and south C is 0 and E - A, by east B is - 2 A, by slant 4 A + 17 D is 25; K at east lets D be 1 at
        # most, so that A is 2 at least, and K at north lets A be 1 at most.
        self.assertEqual(clashing(NOISY), (0, 1, 2, 5))
        self.assertEqual(clashing(readings=NOISY[::-1]), shortest_clash(NOISY[::-1]))

    def test_the_shortest_and_then_the_least(self):
        stream, found = Stream(5), {}
        for _ in range(60):
            readings = tuple(at(heading_of_half(Fraction(stream.whole(-2, 3), 2)), stream.whole(-2, 2))
                             for _ in range(stream.whole(4, 6)))
            told = clashing(readings)
            self.assertEqual(told, shortest_clash(readings))
            found[None if told is None else len(told)] = True
        self.assertGreaterEqual(len(found), 3)

    def test_any_readings(self):
        for readings, _ in random_readings(6, 150):
            told = clashing(readings)
            if told is None:
                self.assertIsNotNone(any_five(readings))
                continue
            self.assertIs(type(told), tuple)
            self.assertIsNone(any_five(tuple(readings[index] for index in told)))
            for many in range(1, len(told) + 1):
                for picked in combinations(range(len(readings)), many):
                    if (len(picked), picked) < (len(told), told):
                        self.assertIsNotNone(any_five(tuple(readings[index] for index in picked)))


class Ranges(unittest.TestCase):
    def test_by_hand(self):
        self.assertEqual(number_range(CALM[::2][:2], 2), (NIL, NIL))
        self.assertEqual(number_range(CALM[:1], 0), (None, None))
        self.assertEqual([number_range((), index) for index in range(5)], [(None, None)] * 5)
        # At north and at south K is from 0 on: 1 + D - B and 1 + D + B.
        self.assertEqual(number_range(CALM[::2][:2], 3), ((-1, 1), None))
        self.assertEqual(number_range(readings=CALM[::2][:2], index=1), (None, None))
        # At east and west 1 - D - C and 1 - D + C.
        self.assertEqual(number_range(CALM[1::2], 3), (None, ONE))
        self.assertEqual(number_range(CALM[:4], 3), ((-1, 1), ONE))
        self.assertEqual([number_range(CALM, index) for index in range(5)], [(NIL, NIL)] * 5)
        # L is A + E at north and south, A - E at east and west, and the four K add up to 4.
        rough = tuple(at(heading, -Fraction(1, 2), 3) for heading in (NORTH, EAST, SOUTH, WEST))
        self.assertEqual(number_range(rough, 0), ((-1, 2), (3, 1)))

    def test_by_elimination(self):
        found = []
        for readings, _ in random_readings(7, 200, 6):
            rows = all_rows(readings)
            if is_possible(rows):
                ends = [ends_of(rows, index) for index in range(5)]
                for index, (low, high) in enumerate(ends):
                    told = number_range(readings, index)
                    self.assertIs(type(told), tuple)
                    self.assertEqual(told, tuple(None if end is None else fraction(end) for end in (low, high)))
                    found.append((low is None, high is None, low == high))
                settled = tuple(index for index, (low, high) in enumerate(ends) if low is not None and low == high)
                self.assertEqual(settled_numbers(readings), settled)
        for told in ((True, True, True), (True, False, False), (False, True, False), (False, False, False),
                     (False, False, True)):
            self.assertIn(told, found)

    def test_settled(self):
        self.assertEqual(settled_numbers(CALM), (0, 1, 2, 3, 4))
        self.assertEqual(settled_numbers(readings=CALM[::2][:2]), (2,))
        self.assertEqual(settled_numbers(()), ())
        self.assertEqual(settled_numbers(CALM[:4]), (0, 1, 2, 4))
        self.assertEqual(settled_numbers((at(NORTH, 1, 2), at(SOUTH, 1, 2))), ())

    def test_endless_on_both_sides_is_not_settled(self):
        self.assertEqual(settled_numbers(CALM[:1]), ())


class Words(unittest.TestCase):
    def test_by_hand(self):
        self.assertEqual(reading_word(CALM, (SLANT, NIL, NIL)), "sure")
        self.assertEqual(reading_word(CALM, (SLANT, ONE, ONE)), "never")
        self.assertEqual(reading_word(CALM[:1], (NORTH, NIL, HALF)), "sure")
        self.assertEqual(reading_word(CALM[:1], (EAST, NIL, NIL)), "open")
        self.assertEqual(reading_word(readings=(), reading=(EAST, NIL, NIL)), "open")
        self.assertEqual(reading_word((), at(EAST, -HUGE, HUGE)), "open")

    def test_bounds_that_just_hold(self):
        readings = (at(NORTH, -1, 1), at(EAST, 0, 2), at(SOUTH, -1, 1), at(WEST, 0, 2))
        for reading in readings:
            heading, low, high = reading
            self.assertEqual(reading_word(readings, reading), "sure")
            wider = at(heading, number(low) - LITTLE, number(high) + LITTLE)
            self.assertEqual(reading_word(readings, wider), "sure")
            for gaps in ((LITTLE, 0), (0, -LITTLE)):
                tighter = at(heading, number(low) + gaps[0], number(high) + gaps[1])
                self.assertEqual(reading_word(readings, tighter), "open")
        # Beyond it there would have to be no force, which is let.
        self.assertEqual(reading_word(readings, at(NORTH, 1 + LITTLE, 2)), "open")

    def test_beside_six(self):
        for reading, told in ((at(SLANT, 0), "sure"), (at(SLANT, LITTLE), "never"), (at(SLANT, -1, LITTLE), "sure")):
            self.assertEqual(reading_word(CALM + CALM[:1], reading), told)
        six = tuple(at(heading_of_half(Fraction(k, 2)), -1, 1) for k in range(-3, 3))
        self.assertEqual(reading_word(six, at(SOUTH, -1, 1)), "open")
        self.assertEqual(reading_word(six, at(NORTH, -1, 1)), "sure")

    def test_by_elimination(self):
        found = []
        for readings, reading in random_readings(8, 300, 5):
            rows, more = all_rows(readings), rows_of(reading)
            if not is_possible(rows):
                with self.assertRaises(NoneFits):
                    reading_word(readings, reading)
                continue
            told = "open"
            if not any(is_possible(rows, [[-each for each in row]]) for row in more):
                told = "sure"
            elif not is_possible(rows + more):
                told = "never"
            self.assertEqual(reading_word(readings, reading), told)
            found.append(told)
        self.assertGreater(min(found.count(each) for each in ("sure", "never", "open")), 15)


class Needless(unittest.TestCase):
    def test_by_hand(self):
        self.assertEqual(needless_readings(CALM), ())
        self.assertEqual(needless_readings(CALM + ((SLANT, NIL, NIL),)), (0, 1, 2, 3, 4, 5))
        self.assertEqual(needless_readings(()), ())
        self.assertEqual(needless_readings(CALM[:1]), ())

    def test_equal_ones(self):
        self.assertEqual(needless_readings(readings=CALM + CALM[2:3]), (2, 5))
        self.assertEqual(needless_readings(CALM[:1] * 3), (0, 1, 2))
        self.assertEqual(needless_readings((at(EAST, -1, 1), at(EAST, -2, 1))), (1,))

    def test_others_that_clash(self):
        # Without one of these four the others clash still; without north, or slant, they do not.
        self.assertEqual(needless_readings(NOISY), (1, 2, 3, 4))
        self.assertIsNotNone(any_five(NOISY[1:]))
        self.assertIsNotNone(any_five(NOISY[:5]))
        for index in (1, 2, 3, 4):
            self.assertFalse(is_possible(all_rows(NOISY[:index] + NOISY[index + 1:])))

    def test_readings_that_clash_with_needless_ones_among_them(self):
        found = False
        for readings, _ in random_readings(9, 400):
            told = clashing(readings)
            if told is None or len(told) == len(readings):
                continue
            found = True
            needless = needless_readings(readings)
            self.assertTrue(all(index in needless for index in range(len(readings)) if index not in told))
        self.assertTrue(found)

    def test_by_elimination(self):
        found = []
        for readings, _ in random_readings(10, 150, 5):
            needless = []
            for index, reading in enumerate(readings):
                rows = all_rows(readings[:index] + readings[index + 1:])
                if not any(is_possible(rows, [[-each for each in row]]) for row in rows_of(reading)):
                    needless.append(index)
            self.assertEqual(needless_readings(readings), tuple(needless))
            found.append(len(needless))
        self.assertGreater(len(set(found)), 3)


class ReadingsOfFives(unittest.TestCase):
    def test_by_hand(self):
        self.assertEqual(reading_of(STEEP, NORTH), (NORTH, NIL, NIL))
        self.assertEqual(reading_of(STEEP, EAST), (EAST, HALF, HALF))
        self.assertIsNone(reading_of(five_of(0, 2, 0, 0, 0), SOUTH))
        self.assertIsNone(reading_of(five_of(0, 1, 0, 0, 0), SOUTH))
        self.assertIsNone(reading_of(five=five_of(1, 1, 0, 0, 0), heading=SOUTH))
        self.assertEqual(reading_of(five_of(0, 1 - LITTLE, 0, 0, 0), SOUTH), (SOUTH, NIL, NIL))

    def test_any_fives(self):
        stream = Stream(11)
        for _ in range(200):
            five, heading = stream.five(), stream.heading()
            north, east = force_at(five, heading)
            told = reading_of(five, heading)
            if north <= 0:
                self.assertIsNone(told)
            else:
                self.assertEqual(told, at(heading, east / north))
                self.assertTrue(is_reading(told) and keeps(five, told))

    def test_they_settle_what_has_five_independent_rows(self):
        stream, found = Stream(12), []
        while len(found) < 40:
            five = stream.five(4, 5, 8)
            if not is_ahead(five):
                continue
            headings = [stream.heading() for _ in range(stream.whole(3, 6))]
            readings = tuple(reading_of(five, heading) for heading in headings)
            rows = []
            for heading, tangent, _ in readings:
                c, s = [number(each) for each in heading]
                t, double, doubled = number(tangent), c * c - s * s, 2 * s * c
                rows.append([Fraction(1), s - t * c, c + t * s, doubled - t * double, double + t * doubled])
            found.append(rank(rows) == 5)
            self.assertIs(settled_numbers(readings) == (0, 1, 2, 3, 4), found[-1])
            if found[-1]:
                self.assertEqual(any_five(readings), five)
        self.assertGreater(min(found.count(True), found.count(False)), 8)

    def test_no_deviation_at_five_headings_is_none_at_all(self):
        stream = Stream(13)
        for _ in range(20):
            headings = list({stream.heading(): True for _ in range(12)})[:5]
            readings = tuple((heading, NIL, NIL) for heading in headings)
            self.assertEqual(any_five(readings), STILL)
            self.assertEqual(reading_word(readings, (stream.heading(), NIL, NIL)), "sure")


def rank(rows):
    """How many rows are independent."""
    rows, many = [list(row) for row in rows], 0
    for at in range(5):
        below = [row for row in rows[many:] if row[at] != 0]
        if below:
            lead = below[0]
            rows.remove(lead)
            rows.insert(many, lead)
            many += 1
            rows[many:] = [[x - y * row[at] / lead[at] for x, y in zip(row, lead)] for row in rows[many:]]
    return many


class NoteArguments(Arguments, unittest.TestCase):
    MODULE = "ironships.notes"
    CALLS = (
        (keeps, ("five", "reading")), (fits, ("five", "readings")), (any_five, ("readings",)),
        (clash_weights, ("readings",)), (clashing, ("readings",)), (number_range, ("readings", "index")),
        (settled_numbers, ("readings",)), (reading_word, ("readings", "reading")),
        (needless_readings, ("readings",)), (reading_of, ("five", "heading")),
    )
    RIGHT = {
        "five": STEEP, "reading": (SLANT, NIL, NIL), "readings": CALM[1:], "index": 2, "heading": STEER,
    }
    ERRORS = {
        "five": InvalidFive, "reading": InvalidReading, "readings": InvalidReadings, "index": InvalidIndex,
        "heading": InvalidHeading,
    }
    WRONG = {
        "five": [[NIL] * 5, (NIL,) * 4, (NIL,) * 6, (NIL, NIL, NIL, NIL, (2, 2)), (0,) * 5, NORTH],
        "reading": [[NORTH, NIL, NIL], (NORTH, ONE, NIL), (NORTH, NIL), CALM, (NIL, NIL, NIL), (NORTH, 0, 0)],
        "readings": [
            list(CALM), CALM[0], CALM + CALM[:2], CALM + (None,), (None,) + CALM, CALM[:2] + ((NORTH, ONE, NIL),),
            CALM + CALM + (None,), CALM + CALM[:1] + (None,), (CALM,), CALM[:1] + (list(CALM[1]),),
        ],
        "index": [-1, 5, HUGE, "0", (0,), [0], (0, 1), -HUGE],
        "heading": [(NIL, NIL), [ONE, NIL], (ONE, ONE), ((6, 10), (4, 5)), (1, 0)],
    }
    INDEXES = {"readings": index_by(is_reading, 6, 0)}
    LET = {"readings": ("()",)}

    def test_the_index_of_a_wrong_reading(self):
        right = CALM[0]
        for readings, index in (
            ([right], None), (None, None), ((None,), 0), ((right, (NORTH, ONE, NIL)), 1), ((right,) * 7, 6),
            ((right,) * 6 + (None,), 6), ((right,) * 5 + (None, right, right), 5), (right, 0),
        ):
            for call in (any_five, clash_weights, clashing, settled_numbers, needless_readings):
                refused(self, call, {"readings": readings}, InvalidReadings, index, "index")
            told = {"readings": readings, "value": ()}
            refused(self, are_clash_weights, told, InvalidReadings, index, "index")
        self.assertIsNotNone(any_five((right,) * 6))

    def test_weights_are_no_argument_that_is_refused(self):
        self.assertEqual(are_clash_weights.__module__, "ironships.notes")
        for value in (None, [1], CALM, -1):
            self.assertIs(are_clash_weights((), value), False)

    def test_readings_that_clash_come_last(self):
        refused(self, number_range, {"readings": NOISY, "index": 5}, InvalidIndex, 5)
        refused(self, reading_word, {"readings": NOISY, "reading": NIL}, InvalidReading, NIL)
        for call in (
            lambda: number_range(NOISY, 0), lambda: settled_numbers(NOISY), lambda: reading_word(NOISY, CALM[0]),
        ):
            with self.assertRaises(NoneFits) as caught:
                call()
            self.assertEqual(vars(caught.exception), {})


if __name__ == "__main__":
    unittest.main()

"""Points [22] to [26] and the interface of bounds.py, with what points [3], [4] and [5] say of its arguments."""

import unittest
from fractions import Fraction
from math import isqrt

from arguments import Arguments, refused
from ironships.bounds import (
    breaking_heading, deviates_less, greater_heading, greatest_force, greatest_tangent, is_ahead, is_as_strong,
    is_within, least_force, least_tangent, plain_many, weak_heading, zero_words,
)
from ironships.errors import (
    HighBelowLow, InvalidFive, InvalidForce, InvalidFraction, InvalidNumber, NotAhead,
)
from ironships.headings import is_heading
from samples import (
    EAST, HALF, HUGE, NIL, NORTH, ONE, SOUTH, STEER, WEST, Stream, dead_five, five_of, force_at, fraction,
    heading_of_half, number,
)

NOUGHTS = (NIL,) * 5
LITTLE = Fraction(1, 10 ** 40 + 7)
CIRCLE = [heading_of_half(Fraction(n, 50)) for n in range(-50, 51)]
CIRCLE += [(fraction(-number(c)), s) for c, s in CIRCLE] + [heading_of_half(Fraction(1, 10 ** 6)), SOUTH]
TAME, BRINK, WILD = five_of(0, Fraction(1, 2), 0, 0, 0), five_of(0, 1, 0, 0, 0), five_of(0, 2, 0, 0, 0)
QUARTERS = five_of(0, 0, 0, Fraction(1, 4), 0)
# Dead at the two headings with cos 2h = - 3 / 5, sin 2h = 4 / 5, which are not told by fractions.
PALE = five_of(0, 0, 0, Fraction(3, 5), Fraction(4, 5))
# The force is (1 + 2 cos h) (cos h, sin h): dead at 120 and at 240 degrees.
FADED = five_of(0, 1, 0, 1, 0)


def fives(seed, many, scale=3):
    stream = Stream(seed)
    for at in range(many):
        yield stream.five(6, 5, scale + at % 4)


def ahead_fives(seed, many):
    return [five for five in fives(seed, 4 * many, 8) if is_ahead(five)][:many]


def broken(five, heading, low, high):
    """Whether at the heading K is not above 0, or the tangent is outside."""
    k, m = force_at(five, heading)
    return k <= 0 or not low * k <= m <= high * k


class Ahead(unittest.TestCase):
    def test_by_one_number(self):
        for at in range(5):
            for size, told in ((0, True), (1 - LITTLE, True), (1, at == 0), (1 + LITTLE, at == 0), (-1, at == 0)):
                five = five_of(*[size if place == at else 0 for place in range(5)])
                self.assertIs(is_ahead(five), told)

    def test_against_samples(self):
        seen = {True: 0, False: 0}
        for five in list(fives(61, 300)):
            told = is_ahead(five=five)
            sampled = all(force_at(five, heading)[0] > 0 for heading in CIRCLE)
            if told:
                self.assertTrue(sampled)
            else:
                # Hardly any is missed by the samples; where one is, the least part to the north is just below 0.
                self.assertTrue(not sampled or min(force_at(five, each)[0] for each in CIRCLE) < Fraction(1, 100))
            seen[told] += 1
        self.assertGreater(min(seen.values()), 40)

    def test_just_ahead_at_a_heading_not_told_by_fractions(self):
        # K = 1 + B cos h + D cos 2h is least at cos h = - B / (4 D): there it is 1 - D - B B / (8 D).
        for d in (Fraction(1, 2), Fraction(3, 4)):
            # B B = 8 D (1 - D) would make it 0; for D = 1 / 2 B is the root of 2.
            edge = 8 * d * (1 - d)
            top = isqrt(edge.numerator * 10 ** 400 // edge.denominator)
            self.assertIs(is_ahead(five_of(0, Fraction(top, 10 ** 200), 0, d, 0)), True)
            self.assertIs(is_ahead(five_of(0, Fraction(top + 1, 10 ** 200), 0, d, 0)), False)
            self.assertIs(is_ahead(five_of(7, -Fraction(top, 10 ** 200), 0, d, 0)), True)

    def test_a_needle_that_turns_to_the_south_half(self):
        self.assertIs(is_ahead(TAME), True)
        for five in (BRINK, WILD, PALE, FADED, five_of(0, 0, 0, 2, 0)):
            self.assertIs(is_ahead(five), False)
        self.assertIs(is_ahead(NOUGHTS), True)
        self.assertIs(is_ahead(five_of(HUGE, 0, 0, 0, 0)), True)


class Within(unittest.TestCase):
    def check(self, five, low, high):
        told = is_within(five, fraction(low), fraction(high))
        heading = breaking_heading(five, fraction(low), fraction(high))
        if told:
            self.assertIsNone(heading)
            for each in CIRCLE:
                self.assertFalse(broken(five, each, low, high))
        else:
            # A five that is dead where no fractions tell it is broken beside this, too.
            self.assertTrue(is_heading(heading))
            self.assertTrue(broken(five, heading, low, high))
        return told

    def test_against_samples_and_breaking_headings(self):
        seen = {True: 0, False: 0}
        stream = Stream(62)
        for five in list(fives(63, 250, 8)):
            low, high = sorted([stream.ratio(9, 4), stream.ratio(9, 4)])
            seen[self.check(five, low, high)] += 1
            seen[self.check(five, -Fraction(9, 4), Fraction(7, 3))] += 1
        self.assertGreater(min(seen.values()), 40)

    def test_bounds_that_a_tangent_just_meets(self):
        # With B = 3 / 5 the tangents are from - 3 / 4 up to 3 / 4, met where cos h is - 3 / 5.
        five = five_of(0, Fraction(3, 5), 0, 0, 0)
        edge = Fraction(3, 4)
        self.assertTrue(self.check(five, -edge, edge))
        self.assertFalse(self.check(five, -edge, edge - LITTLE))
        self.assertFalse(self.check(five, LITTLE - edge, edge))
        # With D = 3 / 5 too, met at headings that no fractions tell: cos 2h is - 3 / 5.
        five = five_of(0, 0, 0, Fraction(3, 5), 0)
        self.assertTrue(self.check(five, -edge, edge))
        self.assertFalse(self.check(five, -edge, edge - LITTLE))
        self.assertFalse(self.check(five, LITTLE - edge, edge))

    def test_bounds_of_tangents_that_are_no_fractions(self):
        # With B = 1 / 2 they are up to 1 / root(3).
        top = isqrt(10 ** 600 // 3)
        self.assertTrue(self.check(TAME, -Fraction(top + 1, 10 ** 300), Fraction(top + 1, 10 ** 300)))
        self.assertFalse(self.check(TAME, -Fraction(top + 1, 10 ** 300), Fraction(top, 10 ** 300)))
        self.assertFalse(self.check(TAME, -Fraction(top, 10 ** 300), Fraction(top + 1, 10 ** 300)))

    def test_low_equal_to_high(self):
        self.assertTrue(self.check(NOUGHTS, 0, 0))
        self.assertFalse(self.check(NOUGHTS, LITTLE, LITTLE))
        for a in (Fraction(1, 3), -7):
            self.assertTrue(self.check(five_of(a, 0, 0, 0, 0), a, a))
            self.assertFalse(self.check(five_of(a, 0, 0, 0, 0), a + LITTLE, a + LITTLE))
        self.assertFalse(self.check(five_of(0, LITTLE, 0, 0, 0), 0, 0))
        self.assertFalse(self.check(five_of(0, 0, 0, 0, LITTLE), 0, 0))

    def test_fives_that_are_not_ahead(self):
        for five in (BRINK, WILD, PALE, FADED, five_of(0, 0, 0, 2, 0), five_of(HUGE, 1, 0, 0, 0)):
            for size in (1, HUGE):
                self.assertFalse(self.check(five, -size, size))

    def test_dead_where_no_fractions_tell_it(self):
        stream = Stream(64)
        for _ in range(40):
            c, s = [number(each) for each in stream.heading()]
            for five in (five_of(0, 0, 0, c, s), five_of(0, 1 + c, s, c, s), five_of(0, -1 - c, -s, c, s)):
                self.assertFalse(self.check(five, -HUGE, HUGE))

    def test_a_breaking_heading_between_close_headings(self):
        # K = 1 + B cos h + cos 2h / 2 with B nearly the root of 2: below 0 close to cos h = - B / 2.
        top = isqrt(2 * 10 ** 80) + 1
        five = five_of(0, Fraction(top, 10 ** 40), 0, Fraction(1, 2), 0)
        self.assertFalse(self.check(five, -10 ** 30, 10 ** 30))
        below = five_of(0, Fraction(top - 1, 10 ** 40), 0, Fraction(1, 2), 0)
        self.assertFalse(self.check(below, -1, 1))
        self.assertTrue(self.check(below, -10 ** 60, 10 ** 60))

    def test_bounds_the_wrong_way_round(self):
        for call in (is_within, breaking_heading):
            told = {"five": TAME, "low": ONE, "high": HALF}
            refused(self, call, told, HighBelowLow, told["high"])
            told = {"five": WILD, "low": NIL, "high": (-1, HUGE)}
            refused(self, call, told, HighBelowLow, told["high"])
            told["high"] = (2, 4)
            refused(self, call, told, InvalidFraction, told["high"])
            told["five"] = [NIL] * 5
            refused(self, call, told, InvalidFive, told["five"])


class Tangents(unittest.TestCase):
    MANY = (1, 2, 10, 999, 10 ** 12)

    def test_of_one_number(self):
        for b in (Fraction(1, 2), Fraction(-3, 5), Fraction(12, 13), LITTLE, 1 - Fraction(1, 10 ** 30)):
            square = b * b / (1 - b * b)
            for many in self.MANY:
                top = isqrt(int(square * many * many))
                is_just = top * top == square * many * many
                for at in (1, 2, 3, 4):
                    five = five_of(*[b if place == at else 0 for place in range(5)])
                    self.assertEqual(greatest_tangent(five, many), top)
                    self.assertEqual(least_tangent(many=many, five=five), -top if is_just else -top - 1)

    def test_of_a_steady_deviation(self):
        for a in (0, Fraction(1, 3), Fraction(-1, 3), HUGE, -HUGE, Fraction(-2, 1)):
            for many in self.MANY:
                told = a * many // 1
                self.assertEqual(greatest_tangent(five=five_of(a, 0, 0, 0, 0), many=many), told)
                self.assertEqual(least_tangent(five_of(a, 0, 0, 0, 0), many), told)

    def test_they_are_what_all_headings_keep(self):
        for five in ahead_fives(65, 40):
            for many in (1, 7, 10 ** 12):
                least, greatest = least_tangent(five, many), greatest_tangent(five, many)
                low, high = fraction(Fraction(least, many)), fraction(Fraction(greatest + 1, many))
                self.assertTrue(is_within(five, low, high))
                self.assertFalse(is_within(five, fraction(Fraction(least + 1, many)), high))
                if is_within(five, low, fraction(Fraction(greatest, many))) and greatest > least:
                    # Then the greatest one is just this.
                    self.assertFalse(is_within(five, low, fraction(Fraction(greatest, many) - LITTLE)))
                tangents = [m / k for k, m in [force_at(five, heading) for heading in CIRCLE]]
                self.assertLessEqual(max(tangents), Fraction(greatest + 1, many))
                self.assertGreaterEqual(min(tangents), Fraction(least, many))
                self.assertLess(Fraction(greatest, many), max(tangents) + Fraction(1, 5))
                self.assertGreater(Fraction(least + 1, many), min(tangents) - Fraction(1, 5))

    def test_not_ahead_comes_last(self):
        for call in (greatest_tangent, least_tangent):
            for five in (BRINK, WILD, PALE, FADED):
                with self.assertRaises(NotAhead) as caught:
                    call(five, 10)
                self.assertEqual(vars(caught.exception), {})
                refused(self, call, {"five": five, "many": 0}, InvalidNumber, 0)
            self.assertIs(type(call(five_of(0, 1 - Fraction(1, 10 ** 60), 0, 0, 0), 10)), int)

    def test_a_five_that_is_hardly_ahead(self):
        b = 1 - Fraction(1, HUGE)
        square = b * b / (1 - b * b)
        top = isqrt(square.numerator // square.denominator)
        self.assertEqual(greatest_tangent(five_of(0, b, 0, 0, 0), 1), top)


class Force(unittest.TestCase):
    MANY = (1, 3, 100, 10 ** 12)

    def test_of_one_number(self):
        for b in (Fraction(1, 2), Fraction(-2, 3), 1, -3, LITTLE, 0, Fraction(7, 4)):
            low, high = (1 - abs(b)) ** 2, (1 + abs(b)) ** 2
            for many in self.MANY:
                for at in (1, 2, 3, 4):
                    five = five_of(*[b if place == at else 0 for place in range(5)])
                    self.assertEqual(least_force(five, many), low * many // 1)
                    self.assertEqual(greatest_force(five, many), high * many // 1)
            for at in (1, 2, 3, 4):
                five = five_of(*[b if place == at else 0 for place in range(5)])
                self.strong(five, low)

    def strong(self, five, low):
        """The least force square is this."""
        if low > 0:
            self.assertIs(is_as_strong(five, fraction(low)), True)
            self.assertIsNone(weak_heading(five, fraction(low)))
        beyond = fraction(low + LITTLE)
        self.assertIs(is_as_strong(force=beyond, five=five), False)
        heading = weak_heading(five=five, force=beyond)
        k, m = force_at(five, heading)
        self.assertLess(k * k + m * m, low + LITTLE)

    def test_a_steady_force(self):
        self.assertEqual([least_force(five_of(2, 0, 0, 0, 0), 3), greatest_force(five_of(2, 0, 0, 0, 0), 3)], [15, 15])
        self.strong(five_of(2, 0, 0, 0, 0), 5)

    def test_against_samples(self):
        for five in list(fives(66, 60)):
            squares = [k * k + m * m for k, m in [force_at(five, heading) for heading in CIRCLE]]
            for many in (1, 50, 10 ** 12):
                low, high = least_force(five, many), greatest_force(many=many, five=five)
                self.assertLessEqual(Fraction(low, many), min(squares))
                self.assertGreater(Fraction(high + 1, many), max(squares))
                self.assertGreater(Fraction(low + 1, many), min(squares) - Fraction(1, 5))
                self.assertLess(Fraction(high, many), max(squares) + Fraction(1, 5))
                if low > 0:
                    self.assertIs(is_as_strong(five, fraction(Fraction(low, many))), True)
                beyond = fraction(Fraction(low + 1, many))
                self.assertIs(is_as_strong(five, beyond), False)
                k, m = force_at(five, weak_heading(five, beyond))
                self.assertLess(k * k + m * m, number(beyond))

    def test_0_exactly_if_the_five_is_dead_somewhere(self):
        stream = Stream(67)
        dead = [dead_five(stream.ratio(), stream.ratio(), stream.ratio(), stream.heading()) for _ in range(20)]
        for five in dead + [BRINK, PALE, FADED]:
            self.assertEqual(least_force(five, 10 ** 12), 0)
            self.assertIs(is_as_strong(five, (1, HUGE)), False)
            k, m = force_at(five, weak_heading(five, (1, HUGE)))
            self.assertLess(k * k + m * m, Fraction(1, HUGE))
        near = five_of(0, 1 - Fraction(1, 10 ** 5), 0, 0, 0)
        self.assertEqual(least_force(near, 10 ** 12), 100)
        self.assertIs(is_as_strong(near, (1, 10 ** 10)), True)

    def test_wrong_forces(self):
        for call in (is_as_strong, weak_heading):
            for force in (NIL, (-1, 1), (-1, HUGE), (2, 4), 1, [1, 2]):
                refused(self, call, {"five": TAME, "force": force}, InvalidForce, force)


class Words(unittest.TestCase):
    def test_of_one_number(self):
        self.assertEqual(zero_words(TAME), ("plain", "plain"))
        self.assertEqual(zero_words(BRINK), ("plain", "dead"))
        self.assertEqual(zero_words(WILD), ("plain", "against"))
        self.assertEqual(zero_words(five_of(0, -2, 0, 0, 0)), ("against", "plain"))
        self.assertEqual(zero_words(five_of(0, 0, 2, 0, 0)), ("against", "plain"))
        self.assertEqual(zero_words(QUARTERS), ("plain",) * 4)
        self.assertEqual(zero_words(five_of(0, 0, 0, 1, 0)), ("plain", "dead") * 2)
        self.assertEqual(zero_words(five=five_of(0, 0, 0, 2, 0)), ("plain", "against") * 2)
        self.assertEqual(zero_words(five_of(1, 0, 0, 0, 0)), ())
        self.assertEqual([plain_many(each) for each in (TAME, BRINK, WILD, QUARTERS)], [2, 1, 1, 4])
        self.assertEqual([plain_many(five=five_of(n, 0, 0, 0, 0)) for n in (1, -1)], [0, 0])

    def test_a_five_of_noughts(self):
        self.assertEqual((zero_words(NOUGHTS), plain_many(NOUGHTS)), ("all", "all"))
        for at in range(5):
            five = five_of(*[LITTLE if place == at else 0 for place in range(5)])
            self.assertNotEqual(zero_words(five), "all")

    def test_dead_where_no_fractions_tell_it(self):
        # L = sin h (1 + 2 cos h) and K = cos h (1 + 2 cos h): the dead headings are at 120 and 240 degrees.
        self.assertEqual(zero_words(FADED), ("plain", "dead", "plain", "dead"))
        self.assertEqual(plain_many(FADED), 2)
        # L is sin 2h' with the angle h' that lies behind the dead headings by a quarter.
        self.assertEqual(sorted(zero_words(PALE)), ["dead", "dead", "plain", "plain"])
        self.assertEqual(zero_words(five_of(0, 2, 0, 1, 0)), ("plain", "dead"))

    def test_words_at_headings_that_no_fractions_tell(self):
        # L = sin h (B + 2 D cos h), so 0 where cos h = - B / (2 D); there K is 1 - B B / (2 D) + D (B B / (2 D D) - 1).
        for d, word in ((Fraction(1, 3), "plain"), (1, "dead"), (3, "against"), (1 - LITTLE, "plain"),
                        (1 + LITTLE, "against")):
            words = zero_words(five_of(0, Fraction(1, 2), 0, d, 0))
            self.assertEqual((words[1], words[3]), (word, word))
            self.assertEqual(words[0], "plain")

    def test_against_samples(self):
        seen = set()
        for five in list(fives(68, 120, 1)) + list(fives(69, 60, 4)):
            words = zero_words(five)
            circle = sorted(CIRCLE, key=clockwise_key)
            forces = [force_at(five, heading) for heading in circle]
            found = []
            for (k, m), (other_k, other_m) in zip(forces, forces[1:] + forces[:1]):
                if m * other_m < 0 and k * other_k > 0:
                    found.append("plain" if k > 0 else "against")
            for word in ("plain", "against"):
                self.assertGreaterEqual(words.count(word), found.count(word))
            self.assertEqual(plain_many(five), words.count("plain"))
            self.assertLessEqual(len(words), 4)
            seen.add(words)
        self.assertGreater(len(seen), 8)


def clockwise_key(heading):
    c, s = [number(each) for each in heading]
    return (0, -c) if s >= 0 else (1, c)


class Less(unittest.TestCase):
    def check(self, five, other):
        told = deviates_less(five, other)
        heading = greater_heading(five, other)
        if told:
            self.assertIsNone(heading)
            for each in CIRCLE:
                self.assertLessEqual(*self.sizes(five, other, each))
        else:
            self.assertTrue(is_heading(heading))
            self.assertGreater(*self.sizes(five, other, heading))
        self.assertIs(type(told), bool)
        return told

    def sizes(self, five, other, heading):
        return [abs(m / k) for k, m in (force_at(five, heading), force_at(other, heading))]

    def test_against_samples_and_greater_headings(self):
        fives_here = ahead_fives(70, 40)
        seen = {True: 0, False: 0}
        for five in fives_here:
            for a in (Fraction(1, 2), 1, -2):
                # A steady deviation beside one that swings.
                seen[self.check(five, five_of(a, 0, 0, 0, 0))] += 1
                self.check(five_of(a, 0, 0, 0, 0), five)
            self.assertTrue(self.check(five, five))
            self.assertTrue(self.check(NOUGHTS, five))
        for five, other in zip(fives_here, fives_here[1:]):
            seen[self.check(five, other)] += 1
        self.assertGreater(min(seen.values()), 20)

    def test_of_one_number(self):
        sizes = (0, LITTLE, Fraction(1, 4), Fraction(1, 4) + LITTLE, Fraction(3, 4), 1 - LITTLE)
        for at in (1, 2, 3, 4):
            for size in sizes:
                for other_size in sizes:
                    five, other = [
                        five_of(*[each if place == at else 0 for place in range(5)]) for each in (size, other_size)]
                    # B / (1 + B cos h) grows with B, and so do the other ones.
                    self.assertIs(self.check(five, other), size <= other_size)

    def test_sizes_are_compared_without_their_signs(self):
        self.assertTrue(self.check(five_of(1, 0, 0, 0, 0), five_of(-1, 0, 0, 0, 0)))
        self.assertTrue(self.check(five_of(-1, 0, 0, 0, 0), five_of(1, 0, 0, 0, 0)))
        self.assertFalse(self.check(five_of(-1 - LITTLE, 0, 0, 0, 0), five_of(1, 0, 0, 0, 0)))
        # At headings with cos h below 0 K is less with B below 0, and so the tangent greater.
        self.assertFalse(self.check(TAME, five_of(0, Fraction(-1, 2), 0, 0, 0)))

    def test_a_size_that_is_just_met(self):
        # With B = 3 / 5 or D = 3 / 5 the tangents are up to 3 / 4.
        for at in (1, 2, 3, 4):
            five = five_of(*[Fraction(3, 5) if place == at else 0 for place in range(5)])
            for a, told in ((Fraction(3, 4), True), (Fraction(3, 4) - LITTLE, False), (Fraction(-3, 4), True)):
                self.assertIs(self.check(five, five_of(a, 0, 0, 0, 0)), told)
        # With B = 1 / 2 they are up to 1 / root(3).
        top = isqrt(10 ** 120 // 3)
        self.assertTrue(self.check(TAME, five_of(Fraction(top + 1, 10 ** 60), 0, 0, 0, 0)))
        self.assertFalse(self.check(TAME, five_of(Fraction(top, 10 ** 60), 0, 0, 0, 0)))

    def test_the_same_zeros_of_which_some_are_no_fractions(self):
        # L is sin h (B + 2 D cos h) and K is 1 + B cos h + D cos 2h, so with a fourth of B and D L / K falls at each
        # heading; both are 0 where cos h is - 1 / 3.
        swung, calmer = [five_of(0, each / 3, 0, each / 2, 0) for each in (Fraction(1), Fraction(1, 4))]
        self.assertTrue(self.check(calmer, swung))
        self.assertFalse(self.check(swung, calmer))
        # Hardly any other zero is enough, or a part of the same sign that is steady.
        self.assertFalse(self.check(five_of(0, Fraction(1, 12) + LITTLE, 0, Fraction(1, 8), 0), swung))
        self.assertFalse(self.check(five_of(LITTLE, Fraction(1, 12), 0, Fraction(1, 8), 0), swung))

    def test_not_ahead_comes_last(self):
        for call in (deviates_less, greater_heading):
            for five, other in ((WILD, TAME), (TAME, WILD), (BRINK, BRINK), (PALE, TAME), (TAME, FADED)):
                with self.assertRaises(NotAhead) as caught:
                    call(five, other)
                self.assertEqual(vars(caught.exception), {})
            listed = [NIL] * 5
            refused(self, call, {"five": WILD, "other": listed}, InvalidFive, listed)
            call(other=TAME, five=TAME)


class BoundArguments(Arguments, unittest.TestCase):
    MODULE = "ironships.bounds"
    CALLS = (
        (is_ahead, ("five",)), (is_within, ("five", "low", "high")), (breaking_heading, ("five", "low", "high")),
        (greatest_tangent, ("five", "many")), (least_tangent, ("five", "many")), (is_as_strong, ("five", "force")),
        (weak_heading, ("five", "force")), (least_force, ("five", "many")), (greatest_force, ("five", "many")),
        (zero_words, ("five",)), (plain_many, ("five",)), (deviates_less, ("five", "other")),
        (greater_heading, ("five", "other")),
    )
    RIGHT = {
        "five": TAME, "other": QUARTERS, "low": (-1, 2), "high": HALF, "many": 100, "force": (1, 3),
    }
    ERRORS = {
        "five": InvalidFive, "other": InvalidFive, "low": InvalidFraction, "high": InvalidFraction,
        "many": InvalidNumber, "force": InvalidForce,
    }
    WRONG = {
        "five": [[NIL] * 5, (NIL,) * 4, (NIL,) * 6, (NIL, NIL, NIL, NIL, (2, 2)), (0,) * 5, NORTH],
        "other": [[NIL] * 5, (NIL,) * 4, (NIL, NIL, (1, -1), NIL, NIL), ONE, STEER],
        "low": [0, 1, [1, 2], (2, 4), (1, -2), (ONE, 0, NIL)],
        "high": [0, 1, [1, 2], (2, 4), (1, -2), NORTH],
        "many": [0, -1, 10 ** 12 + 1, HUGE, -HUGE, (5, 1), [5]],
        "force": [NIL, (-1, 3), (2, 4), 1, [1, 2], (-1, HUGE), EAST, WEST],
    }


if __name__ == "__main__":
    unittest.main()

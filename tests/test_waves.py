"""Points [19] to [22] and the interface of waves.py, with what points [3], [4] and [5] say of its arguments."""

import unittest
from fractions import Fraction
from itertools import combinations_with_replacement
from math import isqrt

from arguments import Arguments, refused
from ironships.errors import (
    InvalidFive, InvalidFraction, InvalidHeading, InvalidIndex, InvalidNumber, InvalidWave,
)
from ironships.headings import is_heading, turned
from ironships.waves import (
    east_wave, force_wave, half_polynomial, heading_with, is_always_above, is_never_below, is_wave, mixed, north_wave,
    signs_at_zeros, turned_wave, wave_at, wave_row, zero_near, zeros_of,
)
from samples import (
    EAST, HALF, HUGE, NIL, NORTH, ONE, SOUTH, STEER, STRANGE, WEST, Stream, five_of, force_at, fraction,
    heading_of_half, number, sign, wave_worth,
)

NIL_WAVE = (NIL,) * 5
CHIEF = (NORTH, EAST, SOUTH, WEST)
FINE = 10 ** 60


def wave_of_polynomial(numbers):
    """The wave that (1 + u u) (1 + u u) makes this polynomial of degree 4 at most in the half u."""
    g = [Fraction(each) for each in numbers] + [Fraction(0)] * (5 - len(numbers))
    k3 = (g[0] + g[4] - g[2]) / 8
    return five_of((g[0] + g[4]) / 2 - k3, (g[0] - g[4]) / 2, (g[1] + g[3]) / 4, k3, (g[1] - g[3]) / 8)


def times_factor(numbers, factor):
    made = [0] * (len(numbers) + len(factor) - 1)
    for at, each in enumerate(numbers):
        for other, more in enumerate(factor):
            made[at + other] += each * more
    return made


def root(square):
    """Nearly the root of a fraction."""
    square = Fraction(square)
    return Fraction(isqrt(square.numerator * FINE * FINE // square.denominator), FINE)


# Factors of polynomials in the half, and their roots: fractions themselves, others nearly.
FACTORS = {
    (0, 1): [Fraction(0)], (-1, 1): [Fraction(1)], (1, 1): [Fraction(-1)], (-1, 2): [Fraction(1, 2)],
    (3, 1): [Fraction(-3)], (-1, 0, 3): [root(Fraction(1, 3)), -root(Fraction(1, 3))],
    (-2, 0, 1): [root(2), -root(2)], (1, 1, 1): [],
}


class Zero:
    """A zero with the half u, None for south, which may be nearly told."""

    def __init__(self, half):
        self.half = half
        if half is None:
            self.key, self.quarter, self.rest = (1, 0), 2, Fraction(0)
        elif half >= 0:
            self.key = (0, half)
            self.quarter, self.rest = (0, half) if half < 1 else (1, (half - 1) / (half + 1))
        else:
            self.key = (2, half)
            self.quarter, self.rest = (3, (half + 1) / (1 - half)) if half >= -1 else (2, -1 / half)
        self.is_fraction = self.rest.denominator < 10 ** 20

    def behind(self):
        """A heading just behind this zero."""
        return heading_of_half(-FINE if self.half is None else self.half + Fraction(1, 10 ** 30))


def built_waves(most=4):
    """Waves with the zeros that they have, in order: of each choice of factors, of both signs."""
    for many in range(most + 1):
        for factors in combinations_with_replacement(list(FACTORS), many):
            numbers = [1]
            for factor in factors:
                numbers = times_factor(numbers, factor)
            if len(numbers) <= 5:
                halves = {half for factor in factors for half in FACTORS[factor]}
                zeros = [Zero(half) for half in halves] + ([Zero(None)] if len(numbers) < 5 else [])
                zeros = sorted(zeros, key=lambda zero: zero.key)
                yield wave_of_polynomial(numbers), zeros
                yield wave_of_polynomial([-each for each in numbers]), zeros


class WhatIsOne(unittest.TestCase):
    def test_waves(self):
        for value in (NIL_WAVE, (ONE, HALF, (-1, HUGE), NIL, (7, 3))):
            self.assertIs(is_wave(value), True)
            self.assertIs(is_wave(value=value), True)
        wrong = [(NIL,) * 4, (NIL,) * 6, [NIL] * 5, NIL, (0,) * 5]
        wrong += [tuple(each if at == place else NIL for at in range(5)) for each in STRANGE for place in (0, 2, 4)]
        for value in STRANGE + wrong:
            with self.subTest(repr(value)[:40]):
                self.assertIs(is_wave(value), False)


class Worth(unittest.TestCase):
    def test_worth(self):
        stream = Stream(41)
        for _ in range(200):
            wave, heading = stream.five(), stream.heading()
            self.assertEqual(wave_at(wave, heading), fraction(wave_worth(wave, heading)))
        wave = five_of(1, 2, 3, 4, 5)
        self.assertEqual([wave_at(wave, each) for each in CHIEF], [(7, 1), (0, 1), (3, 1), (-6, 1)])
        self.assertEqual(wave_at(heading=STEER, wave=five_of(0, 0, 0, 25, 25)), (17, 1))

    def test_mixed(self):
        wave, other = (ONE, HALF, NIL, (1, 3), (-1, 1)), (NIL, HALF, ONE, (1, 6), (2, 1))
        self.assertEqual(mixed(wave, other, (-2, 1)), (ONE, (-1, 2), (-2, 1), NIL, (-5, 1)))
        self.assertEqual(mixed(fraction=NIL, other=other, wave=wave), wave)
        self.assertEqual(mixed(wave, wave, (-1, 1)), NIL_WAVE)

    def test_a_turned_wave_is_worth_what_the_wave_is_at_the_turned_heading(self):
        stream = Stream(42)
        for at in range(200):
            wave, heading, other = stream.five(), stream.heading(), stream.heading()
            heading = CHIEF[at % 4] if at % 5 == 0 else heading
            told = turned_wave(wave, heading)
            self.assertTrue(is_wave(told))
            self.assertEqual(wave_at(told, other), wave_at(wave, turned(other, heading)))
            self.assertEqual(turned_wave(told, other), turned_wave(wave, turned(heading, other)))

    def test_turned_by_chief_headings(self):
        wave = five_of(1, 2, 3, 4, 5)
        self.assertEqual(turned_wave(wave, NORTH), wave)
        self.assertEqual(turned_wave(wave, EAST), five_of(1, 3, -2, -4, -5))
        self.assertEqual(turned_wave(heading=SOUTH, wave=wave), five_of(1, -2, -3, 4, 5))
        self.assertEqual(turned_wave(wave, WEST), five_of(1, -3, 2, -4, -5))

    def test_the_polynomial_of_a_wave(self):
        wave = ((1, 2), (-2, 3), (3, 4), (5, 1), (-1, 6))
        first = half_polynomial(wave)[0] / wave_worth(wave, NORTH)
        self.assertGreater(first, 0)
        for half in (0, 1, -1, Fraction(2, 3), -3):
            told = sum(each * Fraction(half) ** at for at, each in enumerate(half_polynomial(wave)))
            self.assertEqual(told, first * (1 + half * half) ** 2 * wave_worth(wave, heading_of_half(half)))


class Zeros(unittest.TestCase):
    def test_number_of_zeros(self):
        seen = set()
        for wave, zeros in built_waves():
            with self.subTest(wave=wave):
                self.assertEqual(zeros_of(wave), len(zeros))
                self.assertIs(type(zeros_of(wave)), int)
            seen.add(len(zeros))
        self.assertEqual(seen, {0, 1, 2, 3, 4})

    def test_rows(self):
        lone = set()
        for wave, zeros in built_waves():
            row = tuple(sign(wave_worth(wave, zero.behind())) for zero in zeros)
            if not zeros:
                row = (sign(wave_worth(wave, NORTH)),)
            with self.subTest(wave=wave):
                self.assertEqual(wave_row(wave), row)
            lone.add((len(zeros), row))
        # Signs beside one another may be alike, and may be so with one zero.
        self.assertLessEqual({(1, (1,)), (1, (-1,)), (2, (1, 1)), (2, (-1, 1)), (3, (1, 1, -1)), (0, (1,))}, lone)

    def test_each_zero_near(self):
        for wave, zeros in built_waves(3):
            for index, zero in enumerate(zeros):
                for many in (1, 7, 10 ** 12):
                    n = zero.rest * many // 1
                    told = (zero.quarter, n, zero.is_fraction and n == zero.rest * many)
                    with self.subTest(wave=wave, index=index, many=many):
                        self.assertEqual(zero_near(wave, index, many), told)
                        self.assertIs(type(zero_near(wave, index, many)[2]), bool)

    def test_headings_with_a_sign(self):
        for wave, zeros in built_waves():
            signs = {sign(wave_worth(wave, zero.behind())) for zero in zeros} or {sign(wave_worth(wave, NORTH))}
            for wanted in (1, -1):
                heading = heading_with(wave, wanted)
                if wanted not in signs:
                    self.assertIsNone(heading)
                else:
                    self.assertTrue(is_heading(heading))
                    self.assertEqual(sign(wave_worth(wave, heading)), wanted)
            heading = heading_with(wave, 0)
            if not any(zero.is_fraction for zero in zeros):
                self.assertIsNone(heading)
            else:
                self.assertTrue(is_heading(heading))
                self.assertEqual(wave_worth(wave, heading), 0)

    def test_turning_moves_the_zeros(self):
        stream = Stream(43)
        for wave, zeros in list(built_waves(2))[::3]:
            heading = stream.heading()
            told = turned_wave(wave, heading)
            self.assertEqual(zeros_of(told), len(zeros))
            row, back = wave_row(told), wave_row(wave)
            self.assertIn(row, [back[at:] + back[:at] for at in range(len(back))])
            found = heading_with(told, 0)
            self.assertEqual(found is None, not any(zero.is_fraction for zero in zeros))

    def test_zeros_at_the_begins_of_quarters(self):
        for at, heading in enumerate(CHIEF):
            c, s = [number(each) for each in heading]
            # 1 - cos of the angle to the heading is 0 there alone; with - instead of 1 it is below 0 elsewhere.
            wave = five_of(1, -c, -s, 0, 0)
            self.assertEqual((zeros_of(wave), wave_row(wave)), (1, (1,)))
            self.assertEqual(zero_near(wave, 0, 5), (at, 0, True))
            self.assertEqual(heading_with(wave, 0), heading)
            self.assertIsNone(heading_with(wave, -1))
            self.assertEqual(wave_row(five_of(-1, c, s, 0, 0)), (-1,))

    def test_zeros_just_before_a_quarter_s_end(self):
        # cos h = 1 / HUGE, so close to east and west that no 10 ** 12 parts it.
        wave = five_of(-Fraction(1, HUGE), 1, 0, 0, 0)
        self.assertEqual(zero_near(wave, 0, 10 ** 12), (0, 10 ** 12 - 1, False))
        self.assertEqual(zero_near(wave, 1, 10 ** 12), (3, 0, False))
        self.assertEqual(wave_row(wave), (-1, 1))

    def test_two_zeros_of_which_one_is_just_told(self):
        # Rests 1 / 2 and a little more: for many = 2 both have n = 1, but only the first one is n / many.
        close = Fraction(1, 2) + Fraction(1, 10 ** 40)
        numbers = times_factor([-1, 2], [-close, 1])
        wave = wave_of_polynomial(times_factor(numbers, [1, 0, 1]))
        self.assertEqual(zeros_of(wave), 2)
        self.assertEqual(zero_near(wave, 0, 2), (0, 1, True))
        self.assertEqual(zero_near(wave, 1, 2), (0, 1, False))
        self.assertEqual(zero_near(wave, 1, 10 ** 12), (0, 5 * 10 ** 11, False))
        below = Fraction(1, 2) - Fraction(1, 10 ** 40)
        wave = wave_of_polynomial(times_factor(times_factor([-1, 2], [-below, 1]), [1, 0, 1]))
        self.assertEqual([zero_near(wave, at, 2) for at in (0, 1)], [(0, 0, False), (0, 1, True)])

    def test_waves_that_just_touch_0_or_not(self):
        shift = Fraction(1, HUGE)
        # (2 u u - 1) squared has two double zeros that are no fractions.
        touching = times_factor([-1, 0, 2], [-1, 0, 2])
        for moved, many, row in ((0, 2, (1, 1)), (shift, 0, (1,)), (-shift, 4, (-1, 1, -1, 1))):
            wave = wave_of_polynomial([touching[0] + moved] + touching[1:])
            self.assertEqual((zeros_of(wave), wave_row(wave)), (many, row))
            self.assertIs(is_never_below(wave), moved >= 0)
            self.assertIs(is_always_above(wave), moved > 0)
            low = heading_with(wave, -1)
            self.assertEqual(low is not None, moved < 0)
            if low is not None:
                self.assertLess(wave_worth(wave, low), 0)
            self.assertIsNone(heading_with(wave, 0))

    def test_a_row_of_both_kinds(self):
        # A double zero at east between simple ones at north and south: sin h (1 - sin h).
        wave = five_of(-HALF_NUMBER, 0, 1, HALF_NUMBER, 0)
        self.assertEqual((zeros_of(wave), wave_row(wave)), (3, (1, 1, -1)))
        self.assertEqual([zero_near(wave, at, 9) for at in range(3)], [(0, 0, True), (1, 0, True), (2, 0, True)])

    def test_signs_everywhere_agree_with_the_row(self):
        for wave, _ in built_waves():
            self.assertIs(is_never_below(wave), -1 not in wave_row(wave))
            self.assertIs(is_always_above(wave), zeros_of(wave) == 0 and wave_row(wave) == (1,))
        self.assertIs(is_never_below(NIL_WAVE), True)
        self.assertIs(is_always_above(NIL_WAVE), False)

    def test_signs_of_another_wave_at_the_zeros(self):
        others = [wave for wave, _ in built_waves(2)][::5]
        for wave, zeros in list(built_waves(2)):
            if not zeros:
                self.assertEqual(signs_at_zeros(wave, others[0]), [])
            for other in others:
                told = []
                for zero in zeros:
                    if zero.half is None:
                        told.append(sign(wave_worth(other, SOUTH)))
                        continue
                    nearly = wave_worth(other, heading_of_half(zero.half))
                    told.append(0 if abs(nearly) < Fraction(1, 10 ** 40) else sign(nearly))
                self.assertEqual(signs_at_zeros(wave, other), told)

    def test_numbers_of_any_size(self):
        # cos h - c with a zero told by fractions, and beside it.
        heading = heading_of_half(Fraction(HUGE - 2, HUGE))
        wave = (fraction(-number(heading[0])), ONE, NIL, NIL, NIL)
        self.assertEqual(zeros_of(wave), 2)
        self.assertIn(heading_with(wave, 0), [heading, (heading[0], fraction(-number(heading[1])))])
        self.assertEqual(zero_near(wave, 0, 10 ** 12), (0, 10 ** 12 - 1, False))
        stream = Stream(44)
        wide = tuple(fraction(Fraction(stream.whole(-9, 9) * HUGE + 1, HUGE + stream.whole(1, 99))) for _ in range(5))
        self.assertEqual(len(wave_row(wide)), max(1, zeros_of(wide)))
        for wanted in set(wave_row(wide)):
            self.assertEqual(sign(wave_worth(wide, heading_with(wide, wanted))), wanted)


HALF_NUMBER = Fraction(1, 2)


class TheNoughtWave(unittest.TestCase):
    def test_it_is_0_everywhere(self):
        self.assertEqual((zeros_of(NIL_WAVE), wave_row(NIL_WAVE)), ("all", (0,)))
        self.assertTrue(is_heading(heading_with(NIL_WAVE, 0)))
        self.assertIsNone(heading_with(NIL_WAVE, 1))
        self.assertIsNone(heading_with(wave=NIL_WAVE, sign=-1))
        self.assertEqual(wave_at(NIL_WAVE, STEER), NIL)
        self.assertEqual(turned_wave(NIL_WAVE, STEER), NIL_WAVE)

    def test_no_wave_beside_it_is_0_everywhere(self):
        for at in range(5):
            wave = tuple((1, HUGE) if place == at else NIL for place in range(5))
            self.assertNotEqual(zeros_of(wave), "all")


class WavesOfAFive(unittest.TestCase):
    def test_they_tell_the_force_at_each_heading(self):
        stream = Stream(45)
        for _ in range(200):
            five = stream.five()
            waves = [north_wave(five), east_wave(five), force_wave(five)]
            for wave in waves:
                self.assertTrue(is_wave(wave))
            for heading in CHIEF + (stream.heading(), stream.heading()):
                k, m = force_at(five, heading)
                told = [number(wave_at(wave, heading)) for wave in waves]
                self.assertEqual(told, [k, m, k * k + m * m])

    def test_by_hand(self):
        five = five_of(1, 2, 3, 4, 5)
        self.assertEqual(north_wave(five), five_of(1, 2, -3, 4, -5))
        self.assertEqual(east_wave(five=five), five_of(1, 3, 2, 5, 4))
        self.assertEqual(force_wave(five), five_of(56, 2 * (2 + 3 + 8 + 15), 2 * (2 - 3 + 12 - 10), 18, -2))
        self.assertEqual(force_wave(NIL_WAVE), five_of(1, 0, 0, 0, 0))


class WaveArguments(Arguments, unittest.TestCase):
    MODULE = "ironships.waves"
    CALLS = (
        (wave_at, ("wave", "heading")), (mixed, ("wave", "other", "fraction")), (turned_wave, ("wave", "heading")),
        (zeros_of, ("wave",)), (wave_row, ("wave",)), (zero_near, ("wave", "index", "many")),
        (heading_with, ("wave", "sign")), (north_wave, ("five",)), (east_wave, ("five",)), (force_wave, ("five",)),
    )
    RIGHT = {
        "wave": (NIL, ONE, HALF, (2, 1), NIL), "other": (ONE, NIL, NIL, NIL, NIL), "heading": STEER,
        "fraction": (-2, 3), "index": 1, "many": 10, "sign": -1, "five": (ONE, HALF, NIL, NIL, (-1, 3)),
    }
    ERRORS = {
        "wave": InvalidWave, "other": InvalidWave, "heading": InvalidHeading, "fraction": InvalidFraction,
        "index": InvalidIndex, "many": InvalidNumber, "sign": InvalidNumber, "five": InvalidFive,
    }
    WRONG = {
        "wave": [[NIL] * 5, (NIL,) * 4, (NIL,) * 6, (NIL, NIL, NIL, NIL, (2, 2)), (0,) * 5, NIL],
        "other": [[NIL] * 5, (NIL,) * 4, (NIL, NIL, (1, -1), NIL, NIL), ONE, NORTH],
        "heading": [(NIL, NIL), [ONE, NIL], (ONE, ONE), ((6, 10), (4, 5)), NIL],
        "fraction": [0, 1, [0, 1], (2, 4), (1, -2), NORTH],
        "index": [-1, 4, 5, HUGE, -HUGE, NIL, ONE, [0]],
        "many": [0, -1, 10 ** 12 + 1, HUGE, -HUGE, (5, 1), [5]],
        "sign": [2, -2, HUGE, ONE, NIL, [1]],
        "five": [[NIL] * 5, (NIL,) * 4, (NIL,) * 6, (NIL, NIL, NIL, NIL, (2, 2)), (0,) * 5],
    }

    def test_is_wave_is_defined_where_it_is_listed(self):
        self.assertEqual(is_wave.__module__, self.MODULE)

    def test_indexes_of_zeros(self):
        for wave, zeros in list(built_waves(2)) + [(NIL_WAVE, []), (five_of(1, 0, 0, 0, 0), [])]:
            for index in range(len(zeros)):
                zero_near(wave, index, 1)
            for index in (len(zeros), -1, -len(zeros), len(zeros) + 1, True, False, None):
                if index is not True and index is not False and index in range(len(zeros)):
                    continue
                refused(self, zero_near, {"wave": wave, "index": index, "many": 1}, InvalidIndex, index)
                refused(self, zero_near, {"wave": wave, "index": index, "many": 0}, InvalidIndex, index)

    def test_the_ends_of_many(self):
        wave = self.RIGHT["wave"]
        self.assertEqual(zero_near(wave, 0, 1)[1], 0)
        self.assertLess(zero_near(wave, 0, 10 ** 12)[1], 10 ** 12)


if __name__ == "__main__":
    unittest.main()

"""What numbers.py and heels.py rest on: headings, irons, places, waves and polynomials, as far as they need them."""

import unittest
from fractions import Fraction
from itertools import combinations_with_replacement

from ironships.errors import InvalidFraction, InvalidWave
from ironships.headings import is_heading
from ironships.irons import is_iron, is_piece, is_place
from ironships.polynomials import is_above, is_nowhere_below, polynomial_of
from ironships.waves import half_polynomial, is_wave, mixed
from samples import (
    EAST, HALF, HUGE, LEVEL, NIL, NORTH, NOTHING, ONE, POST, SOUTH, STEER, STRANGE, WEST, fraction, heading_of_half,
    number, rows_of,
)


class Headings(unittest.TestCase):
    def test_headings(self):
        for value in (NORTH, EAST, SOUTH, WEST, STEER, ((-7, 25), (24, 25)), heading_of_half(HUGE)):
            self.assertIs(is_heading(value), True)

    def test_what_is_no_heading(self):
        wrong = [
            NIL, 0, (NIL, NIL), (ONE, ONE), ((3, 5), (3, 5)), [ONE, NIL], (ONE, [0, 1]), ((6, 10), (4, 5)), (1, 0),
            (ONE, NIL, NIL), ((-3, -5), (4, 5)), ((True, 1), NIL),
        ]
        for value in STRANGE + wrong + [(each, NIL) for each in STRANGE] + [(ONE, each) for each in STRANGE]:
            with self.subTest(repr(value)[:40]):
                self.assertIs(is_heading(value), False)


class Irons(unittest.TestCase):
    def test_irons_and_pieces(self):
        for value in (POST, (NOTHING,) * 3, rows_of(range(12)), rows_of([Fraction(-199, 100)] + [0] * 11)):
            self.assertIs(is_iron(value), True)
            self.assertIs(is_piece(value), True)

    def test_pieces_without_strength(self):
        for a, e in ((-2, 0), (0, -2), (-1, -1), (-3, 0), (0, -HUGE), (Fraction(-4, 3), Fraction(-2, 3))):
            value = rows_of([a, 0, 0, 0, 0, e, 0, 0, 0, 0, 0, 0])
            self.assertIs(is_iron(value), False)
            self.assertIs(is_piece(value), True)

    def test_what_is_no_piece(self):
        wrong = [
            (), (NOTHING,) * 2, (NOTHING,) * 4, [NOTHING] * 3, (NOTHING, NOTHING, list(NOTHING)),
            (NOTHING, NOTHING, NOTHING[:3]), (NOTHING, NOTHING + (NIL,), NOTHING), NOTHING, LEVEL,
        ]
        wrong += [(NOTHING, each, NOTHING) for each in STRANGE]
        wrong += [(NOTHING, NOTHING, (NIL, NIL, NIL, each)) for each in STRANGE]
        wrong += [((each, NIL, NIL, NIL), NOTHING, NOTHING) for each in STRANGE]
        for value in STRANGE + wrong:
            with self.subTest(repr(value)[:60]):
                self.assertIs(is_iron(value), False)
                self.assertIs(is_piece(value), False)

    def test_places(self):
        for value in (LEVEL, ((1, HUGE), (-5, 3)), ((10, 1), (20, 1))):
            self.assertIs(is_place(value), True)
        wrong = [(NIL, ONE), ((-1, 2), ONE), [ONE, NIL], (ONE,), (ONE, NIL, NIL), (1, 0), (1, 1), ONE]
        for value in STRANGE + wrong + [(each, NIL) for each in STRANGE] + [(ONE, each) for each in STRANGE]:
            with self.subTest(repr(value)[:40]):
                self.assertIs(is_place(value), False)


class Waves(unittest.TestCase):
    def test_waves(self):
        self.assertIs(is_wave((NIL,) * 5), True)
        self.assertIs(is_wave((ONE, HALF, (-1, HUGE), NIL, (7, 3))), True)
        wrong = [(NIL,) * 4, (NIL,) * 6, [NIL] * 5, NIL, (0,) * 5] + [(NIL, NIL, each, NIL, NIL) for each in STRANGE]
        for value in STRANGE + wrong:
            with self.subTest(repr(value)[:40]):
                self.assertIs(is_wave(value), False)

    def test_mixed(self):
        wave, other = (ONE, HALF, NIL, (1, 3), (-1, 1)), (NIL, HALF, ONE, (1, 6), (2, 1))
        self.assertEqual(mixed(wave, other, (-2, 1)), (ONE, (-1, 2), (-2, 1), NIL, (-5, 1)))
        self.assertEqual(mixed(fraction=NIL, other=other, wave=wave), wave)

    def test_wrong_arguments_of_mixed(self):
        wave = (NIL,) * 5
        for value in STRANGE + [list(wave), wave[:4]]:
            for told, error in (
                ((value, value, value), InvalidWave), ((value, wave, NIL), InvalidWave),
                ((wave, value, value), InvalidWave), ((wave, wave, value), InvalidFraction),
            ):
                with self.assertRaises(error) as caught:
                    mixed(*told)
                self.assertIs(caught.exception.given, value)

    def test_the_polynomial_of_a_wave(self):
        wave = ((1, 2), (-2, 3), (3, 4), (5, 1), (-1, 6))
        k = [number(each) for each in wave]
        for half in (0, 1, -1, Fraction(2, 3), -3):
            c, s = [number(each) for each in heading_of_half(half)]
            worth = k[0] + k[1] * c + k[2] * s + k[3] * (c * c - s * s) + k[4] * 2 * c * s
            told = sum(each * half ** at for at, each in enumerate(half_polynomial(wave)))
            self.assertGreater(told * worth, 0)
            self.assertEqual(told / worth, half_polynomial(wave)[0] / (k[0] + k[1] + k[3]) * (1 + half * half) ** 2)


def multiplied(factors, sign):
    """The polynomial of a row of factors, each a tuple of numbers from the constant one on."""
    numbers = [Fraction(sign)]
    for factor in factors:
        made = [Fraction(0)] * (len(numbers) + len(factor) - 1)
        for at, each in enumerate(numbers):
            for other, more in enumerate(factor):
                made[at + other] += each * more
        numbers = made
    scale = 1
    for each in numbers:
        scale *= each.denominator
    return polynomial_of([int(each * scale) for each in numbers])


class Polynomials(unittest.TestCase):
    # Each factor with the squares of its roots and their signs, told by fractions or not.
    FACTORS = {
        (0, 1): [0], (-1, 2): [Fraction(1, 4)], (1, 2): [Fraction(-1, 4)], (-1, 0, 2): [Fraction(1, 2), Fraction(-1, 2)],
        (-1, 0, 3): [Fraction(1, 3), Fraction(-1, 3)], (1, 1, 1): [], (-2, 1): [4],
    }
    STRETCHES = (Fraction(1, 4), Fraction(1, 2), Fraction(577, 1000), Fraction(578, 1000), Fraction(708, 1000), 3)

    def test_signs_on_a_stretch(self):
        for many in range(5):
            for factors in combinations_with_replacement(list(self.FACTORS), many):
                for half in self.STRETCHES:
                    for sign in (1, -1):
                        self.one(factors, Fraction(half), sign)

    def one(self, factors, half, sign):
        roots = [root for factor in factors for root in self.FACTORS[factor]]
        inside = [root for root in roots if abs(root) < half * half]
        ends = [root for root in roots if abs(root) == half * half]
        polynomial = multiplied(factors, sign)
        # A sample near 0 and no root: there each factor has the sign of what it is worth.
        sample, worth = Fraction(1, 10 ** 6), Fraction(sign)
        for factor in factors:
            worth *= sum(each * sample ** at for at, each in enumerate(factor))
        turns = any(inside.count(root) % 2 == 1 for root in inside)
        low, high = fraction(-half), fraction(half)
        self.assertIs(is_nowhere_below(polynomial, low, high), worth > 0 and not turns, (factors, half, sign))
        self.assertIs(is_above(polynomial, low, high), worth > 0 and not inside and not ends, (factors, half, sign))

    def test_a_root_at_nought_alone(self):
        self.assertIs(is_above((0, 0, 1), (-1, 2), (1, 2)), False)
        self.assertIs(is_nowhere_below((0, 0, 1), (-1, 2), (1, 2)), True)
        self.assertIs(is_nowhere_below((0, 1), NIL, ONE), True)
        self.assertIs(is_nowhere_below((0, 1), (-1, 1), NIL), False)
        self.assertIs(is_above((0, 1), NIL, ONE), False)
        self.assertIs(is_above((0, 1), (1, 9), ONE), True)

    def test_a_root_at_the_end_beside_one_within(self):
        # (1 - 2 u) (1 + 4 u) and its mirror are below 0 on one side of their inner root.
        self.assertIs(is_nowhere_below((1, 2, -8), (-1, 2), (1, 2)), False)
        self.assertIs(is_nowhere_below((1, -2, -8), (-1, 2), (1, 2)), False)
        self.assertIs(is_nowhere_below((1, 2, -8), (-1, 4), (1, 2)), True)

    def test_the_nought_polynomial(self):
        self.assertEqual(polynomial_of([0, 0]), ())
        self.assertIs(is_above((), (-1, 2), (1, 2)), False)
        self.assertIs(is_nowhere_below((), (-1, 2), (1, 2)), True)


if __name__ == "__main__":
    unittest.main()

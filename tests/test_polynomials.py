"""Signs, roots and Sturm's chains of polynomials, on which [2] rests for all that is told of all headings or heels."""

import unittest
from fractions import Fraction
from itertools import combinations_with_replacement, product
from math import isqrt

from ironships.headings import half_of, mirrored, quarter_of, turned
from ironships.polynomials import (
    is_above, is_nowhere_below, may_be_nought_at_a_fraction, multiplied, polynomial_of, root_chain, sign_at,
    sum_of_products,
)
from ironships.roots import Roots, heading_at_root, heading_with_sign
from samples import EAST, NIL, NORTH, ONE, SOUTH, WEST, fraction, number, sign


def told_by(factors, sign):
    """The polynomial of a row of factors, each a tuple of numbers from the constant one on."""
    numbers = [Fraction(sign)]
    for factor in factors:
        made = [Fraction(0)] * (len(numbers) + len(factor) - 1)
        for at, each in enumerate(numbers):
            for other, more in enumerate(factor):
                made[at + other] += each * more
        numbers = made
    scale = 1
    for each in numbers:
        scale *= each.denominator
    return polynomial_of([int(each * scale) for each in numbers])


class Polynomials(unittest.TestCase):
    # Each factor with the squares of its roots and their signs, told by fractions or not.
    FACTORS = {
        (0, 1): [0], (-1, 2): [Fraction(1, 4)], (1, 2): [Fraction(-1, 4)], (-1, 0, 2): [Fraction(1, 2), Fraction(-1, 2)],
        (-1, 0, 3): [Fraction(1, 3), Fraction(-1, 3)], (1, 1, 1): [], (-2, 1): [4],
    }
    STRETCHES = (Fraction(1, 4), Fraction(1, 2), Fraction(577, 1000), Fraction(578, 1000), Fraction(708, 1000), 3)

    def test_signs_on_a_stretch(self):
        for many in range(5):
            for factors in combinations_with_replacement(list(self.FACTORS), many):
                for half in self.STRETCHES:
                    for sign in (1, -1):
                        self.one(factors, Fraction(half), sign)

    def one(self, factors, half, sign):
        roots = [root for factor in factors for root in self.FACTORS[factor]]
        inside = [root for root in roots if abs(root) < half * half]
        ends = [root for root in roots if abs(root) == half * half]
        polynomial = told_by(factors, sign)
        # A sample near 0 and no root: there each factor has the sign of what it is worth.
        sample, worth = Fraction(1, 10 ** 6), Fraction(sign)
        for factor in factors:
            worth *= sum(each * sample ** at for at, each in enumerate(factor))
        turns = any(inside.count(root) % 2 == 1 for root in inside)
        low, high = fraction(-half), fraction(half)
        self.assertIs(is_nowhere_below(polynomial, low, high), worth > 0 and not turns, (factors, half, sign))
        self.assertIs(is_above(polynomial, low, high), worth > 0 and not inside and not ends, (factors, half, sign))

    def test_a_root_at_nought_alone(self):
        self.assertIs(is_above((0, 0, 1), (-1, 2), (1, 2)), False)
        self.assertIs(is_nowhere_below((0, 0, 1), (-1, 2), (1, 2)), True)
        self.assertIs(is_nowhere_below((0, 1), NIL, ONE), True)
        self.assertIs(is_nowhere_below((0, 1), (-1, 1), NIL), False)
        self.assertIs(is_above((0, 1), NIL, ONE), False)
        self.assertIs(is_above((0, 1), (1, 9), ONE), True)

    def test_a_root_at_the_end_beside_one_within(self):
        # (1 - 2 u) (1 + 4 u) and its mirror are below 0 on one side of their inner root.
        self.assertIs(is_nowhere_below((1, 2, -8), (-1, 2), (1, 2)), False)
        self.assertIs(is_nowhere_below((1, -2, -8), (-1, 2), (1, 2)), False)
        self.assertIs(is_nowhere_below((1, 2, -8), (-1, 4), (1, 2)), True)

    def test_the_nought_polynomial(self):
        self.assertEqual(polynomial_of([0, 0]), ())
        self.assertIs(is_above((), (-1, 2), (1, 2)), False)
        self.assertIs(is_nowhere_below((), (-1, 2), (1, 2)), True)


class Products(unittest.TestCase):
    def test_sums_of_products(self):
        self.assertEqual(sum_of_products([((1, 2), (3, 4)), ((5,), (0, 0, 6))]), (3, 10, 38))
        self.assertEqual(multiplied((1, 1), (-1, 1)), (-1, 0, 1))
        self.assertEqual(multiplied((1, 1), ()), ())
        self.assertEqual(sum_of_products([((1, 2), (3,)), ((-3, -6), (1,))]), ())

    def test_a_chain_begins_with_each_root_once(self):
        # Its sign may be either; only where it turns is looked at.
        self.assertIn(root_chain((0, 0, 0, -2))[0], [(0, -1), (0, 1)])
        self.assertIn(root_chain((1, -4, 4))[0], [(1, -2), (-1, 2)])
        self.assertEqual(root_chain((-7,)), [(-7,)])


class RootsOfAQuarter(unittest.TestCase):
    # Factors and their roots from 0 on, below 1: with their squares, since those that are no fractions are roots.
    FACTORS = {
        (0, 1): [0], (-1, 2): [Fraction(1, 4)], (1, 2): [], (-1, 0, 2): [Fraction(1, 2)], (-1, 0, 3): [Fraction(1, 3)],
        (1, 1, 1): [], (-1, 1): [], (-500001, 1000000): [Fraction(500001, 1000000) ** 2],
        (-577, 1000): [Fraction(577, 1000) ** 2],
    }

    def test_how_many_where_and_which_fractions(self):
        for many in range(5):
            for factors in combinations_with_replacement(list(self.FACTORS), many):
                squares = sorted({square for factor in factors for square in self.FACTORS[factor]})
                roots = Roots(told_by(factors, 1))
                self.assertEqual(roots.many, len(squares))
                for index, square in enumerate(squares):
                    self.one(roots, index, square, squares)

    def one(self, roots, index, square, squares):
        for many in (1, 10, 1000, 10 ** 12):
            low = max(n for n in range(near_root(square, many) - 2, near_root(square, many) + 3) if n >= 0
                      and Fraction(n, many) ** 2 <= square)
            self.assertEqual(roots.near(index, many), (low, Fraction(low, many) ** 2 == square))
        found = roots.as_fraction(index)
        self.assertEqual(found is not None, square not in (Fraction(1, 2), Fraction(1, 3)))
        if found is not None:
            self.assertEqual(number(found) ** 2, square)
        behind = number(roots.behind(index))
        self.assertTrue(square < behind ** 2 < (squares + [1])[index + 1])
        # The signs of u - 1 / 2 and 3 u u - 1, of a constant number and of 0 at the root.
        self.assertEqual(roots.sign_there(index, (-1, 2)), sign(square - Fraction(1, 4)))
        self.assertEqual(roots.sign_there(index, (-1, 0, 3)), sign(square - Fraction(1, 3)))
        self.assertEqual(roots.sign_there(index, (-5,)), -1)
        self.assertEqual(roots.sign_there(index, ()), 0)

    def test_no_fraction_is_missed_by_the_first_look(self):
        for top, bottom in product(range(-12, 13), range(1, 13)):
            for factor in ((1,), (1, 1, 1), (-2, 0, 1)):
                self.assertIs(may_be_nought_at_a_fraction(told_by([(-top, bottom), factor], 1)), True)
        self.assertIs(may_be_nought_at_a_fraction((-2, 0, 1)), False)
        self.assertIs(may_be_nought_at_a_fraction((5,)), False)

    def test_headings_with_a_sign(self):
        self.assertEqual(heading_with_sign([(-1,), (-1,), (-1,), (2,)], 1), WEST)
        self.assertEqual(heading_with_sign([(-1,), (3,), (-1,), (2,)], 1), EAST)
        self.assertIsNone(heading_with_sign([(-1,), (-1,), (-1, 4, -4), (-1,)], 1))
        self.assertIsNone(heading_with_sign([()] * 4, 1))
        self.assertIsNotNone(heading_with_sign([(-1,)] * 4, -1))
        # Above 0 behind its begin alone, between two close roots that are no fractions, and up to a quarter's end.
        far = 10 ** 80
        narrow = (1 - far, 0, 4 * far, 0, -4 * far)
        for polynomial in ((0, 1), narrow, (-1, 1, 1)):
            for quarter in range(4):
                polynomials = [(-1,)] * 4
                polynomials[quarter] = polynomial
                heading = heading_with_sign(polynomials, 1)
                self.assertEqual(quarter_of(heading), quarter)
                back = turned(heading, mirrored((NORTH, EAST, SOUTH, WEST)[quarter]))
                self.assertEqual(sign_at(polynomial, half_of(back)), 1)
        self.assertIsNone(heading_with_sign([(-1,), (-far,) + narrow[1:], (-1,), (-1,)], 1))

    def test_headings_at_a_root(self):
        self.assertEqual(heading_at_root([(0, 1), (1,), (1,), (1,)]), NORTH)
        self.assertEqual(heading_at_root([(-1, 0, 2), (1,), (0, -3, 1), (1,)]), SOUTH)
        self.assertIsNone(heading_at_root([(-1, 0, 2), (1,), (-1, 0, 3), (-1, 1)]))


def near_root(square, many):
    """The root of a square times many, within 2."""
    return isqrt(int(square * many * many))


if __name__ == "__main__":
    unittest.main()

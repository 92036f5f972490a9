"""Point [6] and the interface of numbers.py, with what points [3], [4] and [5] say of its arguments."""

import unittest
from fractions import Fraction
from math import isqrt

from ironships.errors import InvalidFraction, InvalidNumber, InvalidSurd
from ironships.numbers import compare, is_fraction, is_surd, near, surd_of
from samples import HUGE, NIL, ONE, STRANGE, fraction, number

ROOT_TWO = (NIL, 1, (2, 1))
PRECISE = 10 ** 120


def refused(test, error, given, call, *told, **more):
    with test.assertRaises(error) as caught:
        call(*told, **more)
    test.assertIs(type(caught.exception), error)
    test.assertIs(caught.exception.given, given)


def nearly(surd):
    """The surd times PRECISE, within 2."""
    part, sign, (top, bottom) = surd
    return number(part) * PRECISE + sign * isqrt(top * PRECISE * PRECISE // bottom)


class Examples(unittest.TestCase):
    def test_the_examples_of_the_interface(self):
        root_two = surd_of((0, 1), (1, 1), (2, 1))
        self.assertEqual(root_two, ROOT_TWO)
        self.assertEqual(
            [
                surd_of((1, 2), (2, 1), (2, 1)), surd_of((1, 1), (-1, 2), (9, 4)), is_surd(((1, 2), 1, (4, 1))),
                compare(root_two, surd_of((0, 1), (1, 1), (3, 1))), near(root_two, 100),
                near(surd_of((0, 1), (-1, 1), (2, 1)), 1),
            ],
            [((1, 2), 1, (8, 1)), ((1, 4), 0, (0, 1)), False, -1, (141, False), (-2, False)],
        )


class Fractions(unittest.TestCase):
    def test_fractions(self):
        for value in (NIL, ONE, (-1, 1), (-7, 3), (5, 1), (HUGE, 1), (-1, HUGE), (HUGE, HUGE + 1)):
            self.assertIs(is_fraction(value), True)

    def test_what_is_no_fraction(self):
        for value in STRANGE + [0, 1, -1, HUGE, ROOT_TWO, [0, 1], [1, 2], (4, 2), (-2, 4), (6, 9), (3, 3), (7, -1)]:
            with self.subTest(repr(value)[:40]):
                self.assertIs(is_fraction(value), False)


class Surds(unittest.TestCase):
    def test_surds(self):
        for value in (
            ROOT_TWO, (NIL, -1, (2, 1)), ((-3, 7), 1, (1, 2)), ((1, 2), -1, (8, 9)), (NIL, 1, (9, 8)), (ONE, 0, NIL),
            ((-5, 3), 0, NIL), (NIL, 1, (HUGE * HUGE + 1, 1)), (NIL, 1, (HUGE * HUGE - 1, HUGE * HUGE)),
        ):
            self.assertIs(is_surd(value), True)

    def test_what_is_no_surd(self):
        wrong = [
            NIL, ONE, (1, 2), 0, 1, 5, [NIL, 1, (2, 1)], (NIL, 1), (NIL, 1, (2, 1), 0), (NIL, 0, (2, 1)),
            (NIL, 0, (-2, 1)), (NIL, 1, NIL), (NIL, -1, NIL), (NIL, 1, (-2, 1)), (NIL, 1, ONE), (NIL, 1, (4, 9)),
            (NIL, -1, (16, 1)), (NIL, 1, (1, 4)), (NIL, 2, (2, 1)), (NIL, -2, (2, 1)), (NIL, True, (2, 1)),
            (NIL, False, NIL), (NIL, None, NIL), (NIL, (1, 1), (2, 1)), ((2, 4), 1, (2, 1)), (NIL, 1, (4, 2)),
            (0, 1, 2), (NIL, 1, 2), (0, 0, NIL), (NIL, 0, (0, True)), (NIL, 0, (0, 2)), (NIL, 0, [0, 1]),
            (NIL, 1, (HUGE * HUGE, (HUGE + 1) ** 2)), (NIL, 0, 0), (NIL, "1", (2, 1)), (NIL, [1], (2, 1)),
        ]
        for value in STRANGE + wrong + [(each, 1, (2, 1)) for each in STRANGE] + [(NIL, 1, each) for each in STRANGE]:
            with self.subTest(repr(value)[:40]):
                self.assertIs(is_surd(value), False)
        for value in STRANGE:
            self.assertIs(is_surd((NIL, value, (2, 1))), False)
            self.assertIs(is_surd((NIL, value, NIL)), False)

    def test_a_root_that_is_a_fraction_goes_into_the_part(self):
        self.assertEqual(surd_of((1, 3), (-2, 3), (25, 16)), ((-1, 2), 0, NIL))
        self.assertEqual(surd_of((1, 3), (2, 3), (25, 16)), ((7, 6), 0, NIL))
        self.assertEqual(surd_of(NIL, ONE, (HUGE * HUGE, 1)), ((HUGE, 1), 0, NIL))
        self.assertEqual(surd_of(NIL, (3, 1), NIL), (NIL, 0, NIL))

    def test_a_factor_of_nought_leaves_the_part(self):
        self.assertEqual(surd_of((5, 7), NIL, (2, 1)), ((5, 7), 0, NIL))
        self.assertEqual(surd_of((5, 7), NIL, NIL), ((5, 7), 0, NIL))
        self.assertEqual(surd_of((5, 7), NIL, (9, 4)), ((5, 7), 0, NIL))

    def test_the_factor_goes_below_the_root(self):
        self.assertEqual(surd_of((1, 2), (-2, 3), (3, 4)), ((1, 2), -1, (1, 3)))
        self.assertEqual(surd_of(NIL, (2, 1), (2, 1)), surd_of(NIL, ONE, (8, 1)))
        self.assertEqual(surd_of(NIL, (-1, 1), (50, 1)), surd_of(NIL, (-5, 1), (2, 1)))
        self.assertEqual(surd_of(NIL, (1, HUGE), (2, 1)), (NIL, 1, (2, HUGE * HUGE)))

    def test_what_is_made_is_a_surd_with_the_right_worth(self):
        for part in (-2, 0, Fraction(3, 7)):
            for factor in (-3, Fraction(-1, 2), 0, Fraction(5, 6), 4):
                for square in (0, 1, 2, Fraction(1, 2), Fraction(4, 9), Fraction(8, 9), 12):
                    surd = surd_of(fraction(part), fraction(factor), fraction(square))
                    self.assertTrue(is_surd(surd))
                    root = isqrt(int(Fraction(square) * PRECISE * PRECISE))
                    self.assertLess(abs(nearly(surd) - part * PRECISE - factor * root), 10)

    def test_wrong_arguments_of_surd_of(self):
        for value in STRANGE + [0, 2, [0, 1], ROOT_TWO]:
            refused(self, InvalidFraction, value, surd_of, value, ONE, (2, 1))
            refused(self, InvalidFraction, value, surd_of, ONE, value, (2, 1))
            refused(self, InvalidFraction, value, surd_of, ONE, ONE, value)
            refused(self, InvalidFraction, value, surd_of, fraction=value, factor=ONE, part=ONE)

    def test_no_root_of_a_fraction_below_nought(self):
        for below in ((-1, 1), (-2, 3), (-HUGE, 1)):
            for factor in (ONE, NIL, (-1, 2)):
                refused(self, InvalidFraction, below, surd_of, ONE, factor, below)

    def test_the_first_wrong_argument_is_told(self):
        first, second, third = (2, 4), (3, 6), (-1, 1)
        refused(self, InvalidFraction, first, surd_of, first, second, third)
        refused(self, InvalidFraction, second, surd_of, ONE, second, third)
        refused(self, InvalidFraction, second, surd_of, fraction=third, factor=second, part=ONE)


class Comparing(unittest.TestCase):
    def both_ways(self, surd, other, sign):
        self.assertIs(compare(surd, other), sign)
        self.assertIs(compare(surd=other, other=surd), -sign)
        self.assertIs(compare(surd, surd), 0)
        self.assertIs(compare(other, tuple(list(other))), 0)

    def test_fractions_are_compared_as_numbers(self):
        self.both_ways(((1, 3), 0, NIL), ((1, 2), 0, NIL), -1)
        self.both_ways(((-1, 3), 0, NIL), ((-1, 2), 0, NIL), 1)
        self.both_ways((NIL, 0, NIL), ((-1, HUGE), 0, NIL), 1)
        self.both_ways(((HUGE, HUGE + 1), 0, NIL), ((HUGE + 1, HUGE + 2), 0, NIL), -1)

    def test_a_root_beside_a_fraction(self):
        self.both_ways(ROOT_TWO, ((141, 100), 0, NIL), 1)
        self.both_ways(ROOT_TWO, ((71, 50), 0, NIL), -1)
        self.both_ways((NIL, -1, (2, 1)), ((-141, 100), 0, NIL), -1)
        self.both_ways((NIL, -1, (2, 1)), (NIL, 0, NIL), -1)

    def test_roots_beside_roots(self):
        self.both_ways(ROOT_TWO, (NIL, 1, (3, 1)), -1)
        self.both_ways((NIL, -1, (2, 1)), (NIL, -1, (3, 1)), 1)
        self.both_ways((NIL, 1, (1, 1000003)), (NIL, -1, (10 ** 9 + 1, 1)), 1)
        self.both_ways((ONE, 1, (2, 1)), (NIL, 1, (5, 1)), 1)
        self.both_ways(((-1, 1), 1, (5, 1)), (NIL, 1, (2, 1)), -1)
        self.both_ways((ONE, 1, (2, 1)), (ONE, -1, (2, 1)), 1)
        self.both_ways(((3, 1), -1, (2, 1)), (NIL, 1, (2, 1)), 1)
        self.both_ways(((5, 2), -1, (2, 1)), ((-1, 3), 1, (2, 1)), 1)

    def test_surds_that_are_very_near_one_another(self):
        top, bottom = 1, 1
        for step in range(400):
            top, bottom = top + 2 * bottom, top + bottom
            # These are in turn below and above the root of 2, nearer and nearer.
            self.both_ways(((top, bottom), 0, NIL), ROOT_TWO, 1 if step % 2 == 0 else -1)
        far = 10 ** 200
        # root(far * far + 1) - far is about 1 / (2 far), a little less.
        self.both_ways(((-far, 1), 1, (far * far + 1, 1)), ((1, 2 * far), 0, NIL), -1)
        self.both_ways(((-far, 1), 1, (far * far + 1, 1)), ((1, 2 * far + 1), 0, NIL), 1)
        # root(n + 1) - root(n) falls as n grows.
        self.both_ways(((-far, 1), 1, (far * far + 1, 1)), ((-far - 1, 1), 1, ((far + 1) ** 2 + 1, 1)), 1)
        self.both_ways(((far, 1), -1, (far * far + 1, 1)), ((far + 1, 1), -1, ((far + 1) ** 2 + 1, 1)), -1)
        # far + root(far * far + k) is 2 far + k / (2 far), a little less; root(4 far * far + k) has k / (4 far) there.
        self.both_ways((NIL, 1, (4 * far * far + 1, 1)), ((far, 1), 1, (far * far + 1, 1)), -1)
        self.both_ways((NIL, 1, (4 * far * far + 3, 1)), ((far, 1), 1, (far * far + 1, 1)), 1)
        self.both_ways((NIL, 1, (4 * far * far + 3, 1)), ((far, 1), 1, (far * far + 2, 1)), -1)
        self.both_ways((NIL, 1, (4 * far * far + 5, 1)), ((far, 1), 1, (far * far + 2, 1)), 1)
        # Alike up to 1 / (2 far): they part at 1 / (16 far * far * far).
        self.both_ways((NIL, 1, (4 * far * far + 2, 1)), ((far, 1), 1, (far * far + 1, 1)), 1)
        self.both_ways((NIL, -1, (4 * far * far + 2, 1)), ((-far, 1), -1, (far * far + 1, 1)), -1)

    def test_parts_whose_gap_has_the_square_of_both_roots_together(self):
        # 2 * 2 is 3 / 2 + 5 / 2, so the roots' product alone decides.
        self.both_ways(((2, 1), 1, (3, 2)), (NIL, 1, (5, 2)), 1)
        self.both_ways(((2, 1), -1, (3, 2)), (NIL, 1, (5, 2)), -1)
        self.both_ways(((-2, 1), 1, (5, 2)), (NIL, 1, (3, 2)), -1)
        self.both_ways(((-2, 1), 1, (5, 2)), (NIL, -1, (3, 2)), 1)

    def test_many_pairs_beside_close_worths(self):
        squares = [(2, 1), (3, 1), (1, 2), (8, 1), (9, 8), (50, 7), (99, 100), (10001, 10000)]
        surds = [(fraction(Fraction(n, 12)), 0, NIL) for n in range(-40, 41, 5)]
        surds += [
            (fraction(Fraction(n, 4)), sign, square) for n in range(-10, 11, 5) for sign in (1, -1) for square in squares
        ]
        self.assertTrue(all(is_surd(each) for each in surds))
        for surd in surds:
            for other in surds:
                gap = nearly(surd) - nearly(other)
                if surd == other:
                    self.assertEqual(compare(surd, other), 0)
                else:
                    self.assertGreater(abs(gap), 10)
                    self.assertEqual(compare(surd, other), 1 if gap > 0 else -1)

    def test_wrong_arguments_of_compare(self):
        for value in STRANGE + [NIL, 0, (NIL, 1, (4, 1)), [NIL, 1, (2, 1)]]:
            refused(self, InvalidSurd, value, compare, value, ROOT_TWO)
            refused(self, InvalidSurd, value, compare, ROOT_TWO, value)
            refused(self, InvalidSurd, value, compare, other=value, surd=ROOT_TWO)
        first, second = (NIL, 1, ONE), (NIL, 0, ONE)
        refused(self, InvalidSurd, first, compare, first, second)
        refused(self, InvalidSurd, first, compare, other=second, surd=first)


class Nearness(unittest.TestCase):
    def test_fractions(self):
        self.assertEqual(near(((1, 2), 0, NIL), 2), (1, True))
        self.assertEqual(near(((1, 2), 0, NIL), 3), (1, False))
        self.assertEqual(near(((-1, 2), 0, NIL), 3), (-2, False))
        self.assertEqual(near(((-1, 2), 0, NIL), 4), (-2, True))
        self.assertEqual(near((NIL, 0, NIL), 10 ** 12), (0, True))
        self.assertIs(near((NIL, 0, NIL), 1)[1], True)

    def test_roots(self):
        self.assertEqual(near(ROOT_TWO, 1), (1, False))
        self.assertEqual(near((NIL, -1, (2, 1)), 100), (-142, False))
        self.assertEqual(near(surd=((1, 3), -1, (1, 2)), many=1000), (-374, False))
        self.assertEqual(near(((2, 1), 1, (1, 2)), 10), (27, False))
        self.assertEqual(near((NIL, 1, (HUGE * HUGE + 1, 1)), 1), (HUGE, False))
        self.assertEqual(near((NIL, -1, (HUGE * HUGE + 1, 1)), 1), (-HUGE - 1, False))
        self.assertEqual(near(((-HUGE, 1), 1, (HUGE * HUGE + 1, 1)), 10 ** 12), (0, False))
        self.assertEqual(near(((HUGE, 1), -1, (HUGE * HUGE + 1, 1)), 10 ** 12), (-1, False))

    def test_it_is_the_greatest_one(self):
        squares = [(2, 1), (1, 2), (9, 8), (50, 7)]
        surds = [(fraction(Fraction(n, 6)), 0, NIL) for n in range(-9, 10)]
        surds += [(fraction(Fraction(n, 6)), e, square) for n in range(-9, 10) for e in (1, -1) for square in squares]
        for surd in surds:
            for many in (1, 2, 7, 12, 10 ** 12):
                n, is_just = near(surd, many)
                self.assertIn(compare((fraction(Fraction(n, many)), 0, NIL), surd), (-1, 0))
                self.assertEqual(compare((fraction(Fraction(n + 1, many)), 0, NIL), surd), 1)
                self.assertIs(is_just, (fraction(Fraction(n, many)), 0, NIL) == surd)

    def test_wrong_arguments_of_near(self):
        for value in STRANGE + [NIL, 0]:
            refused(self, InvalidSurd, value, near, value, 1)
            refused(self, InvalidNumber, value, near, ROOT_TWO, value)
        for value in (0, -1, 10 ** 12 + 1, -HUGE, HUGE, ONE, (5, 1)):
            refused(self, InvalidNumber, value, near, ROOT_TWO, value)
        refused(self, InvalidSurd, 5, near, 5, 0)
        refused(self, InvalidSurd, 5, near, many=0, surd=5)


if __name__ == "__main__":
    unittest.main()

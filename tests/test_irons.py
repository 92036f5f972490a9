"""Points [10] and [11] and the interface of irons.py, with what points [3], [4] and [5] say of its arguments."""

import unittest
from fractions import Fraction

from arguments import Arguments, refused
from ironships.errors import InvalidFive, InvalidIron, InvalidPiece, InvalidPlace, TooMuchIron
from ironships.irons import (
    five_of, is_five, is_iron, is_piece, is_place, joined, plain_iron, strength_of,
)
from samples import (
    EAST, HALF, HUGE, LEVEL, NIL, NORTH, NOTHING, ONE, POST, SOUTH, STEER, STRANGE, WEST, Stream, force_at, fraction,
    number, rows_of,
)

NOUGHTS = (NIL,) * 5
HULL = rows_of([Fraction(1, 5), 0, Fraction(1, 10), 2, 0, Fraction(-1, 5), 0, -1, 0, 0, Fraction(1, 5), 3])
HOME = ((10, 1), (20, 1))
BARE = (NOTHING,) * 3


def field_seen(iron, place, heading):
    """The parts to the north and to the east of the field at the compass, straight from what [10] says."""
    rows = [[number(each) for each in row] for row in iron]
    force, down = [number(each) for each in place]
    c, s = [number(each) for each in heading]
    seen = (force * c, -force * s, down)
    fore, side = [seen[at] + sum(rows[at][k] * seen[k] for k in range(3)) + rows[at][3] for at in range(2)]
    return fore * c - side * s, fore * s + side * c


class WhatIsOne(unittest.TestCase):
    def test_irons_and_pieces(self):
        for value in (POST, BARE, HULL, rows_of(range(12)), rows_of([Fraction(-199, 100)] + [0] * 11)):
            self.assertIs(is_iron(value), True)
            self.assertIs(is_piece(value=value), True)

    def test_pieces_without_strength(self):
        for a, e in ((-2, 0), (0, -2), (-1, -1), (-3, 0), (0, -HUGE), (Fraction(-4, 3), Fraction(-2, 3))):
            value = rows_of([a, 0, 0, 0, 0, e, 0, 0, 0, 0, 0, 0])
            self.assertIs(is_iron(value), False)
            self.assertIs(is_piece(value), True)

    def test_strength_that_is_just_there(self):
        for a, e in ((Fraction(1, HUGE) - 2, 0), (-1, Fraction(1, HUGE) - 1), (-HUGE, HUGE - Fraction(199, 100))):
            self.assertIs(is_iron(value=rows_of([a, 0, 0, 0, 0, e, 0, 0, 0, 0, 0, 0])), True)

    def test_the_last_number_of_the_main_ones_does_not_count(self):
        self.assertIs(is_iron(rows_of([0] * 10 + [-HUGE, 0])), True)

    def test_what_is_no_piece(self):
        wrong = [
            (), (NOTHING,) * 2, (NOTHING,) * 4, [NOTHING] * 3, (NOTHING, NOTHING, list(NOTHING)),
            (NOTHING, NOTHING, NOTHING[:3]), (NOTHING, NOTHING + (NIL,), NOTHING), NOTHING, LEVEL, NOUGHTS,
        ]
        wrong += [(NOTHING, each, NOTHING) for each in STRANGE]
        wrong += [(NOTHING, NOTHING, (NIL, NIL, NIL, each)) for each in STRANGE]
        wrong += [((each, NIL, NIL, NIL), NOTHING, NOTHING) for each in STRANGE]
        for value in STRANGE + wrong:
            with self.subTest(repr(value)[:60]):
                self.assertIs(is_iron(value), False)
                self.assertIs(is_piece(value), False)

    def test_places(self):
        for value in (LEVEL, ((1, HUGE), (-5, 3)), ((10, 1), (20, 1)), (ONE, (-HUGE, 1))):
            self.assertIs(is_place(value), True)
            self.assertIs(is_place(value=value), True)
        wrong = [(NIL, ONE), ((-1, 2), ONE), [ONE, NIL], (ONE,), (ONE, NIL, NIL), (1, 0), (1, 1), ONE, (ONE, 0)]
        for value in STRANGE + wrong + [(each, NIL) for each in STRANGE] + [(ONE, each) for each in STRANGE]:
            with self.subTest(repr(value)[:40]):
                self.assertIs(is_place(value), False)

    def test_fives(self):
        for value in (NOUGHTS, (ONE, HALF, (-1, HUGE), NIL, (7, 3)), five_of(HULL, HOME)):
            self.assertIs(is_five(value), True)
            self.assertIs(is_five(value=value), True)
        wrong = [(NIL,) * 4, (NIL,) * 6, [NIL] * 5, NIL, (0,) * 5, HULL]
        wrong += [tuple(each if at == place else NIL for at in range(5)) for each in STRANGE for place in (0, 2, 4)]
        for value in STRANGE + wrong:
            with self.subTest(repr(value)[:40]):
                self.assertIs(is_five(value), False)


class Fives(unittest.TestCase):
    def test_strength(self):
        self.assertEqual(strength_of(BARE), ONE)
        self.assertEqual(strength_of(rows_of([1] + [0] * 11)), (3, 2))
        self.assertEqual(strength_of(rows_of([0, 7, 7, 7, 7, 1, 7, 7, 7, 7, 7, 7])), (3, 2))
        self.assertEqual(strength_of(iron=rows_of([Fraction(-199, 100)] + [0] * 11)), (1, 200))

    def test_by_hand(self):
        iron = rows_of([3, 5, 7, 11, 13, 17, 19, 23, 29, 31, 37, 41])
        # m = 11; at H = 2, Z = 3: A = 8 / 22, B = 32 / 22, C = 80 / 22, D = - 14 / 22, E = 18 / 22.
        self.assertEqual(five_of(iron, ((2, 1), (3, 1))), ((4, 11), (16, 11), (40, 11), (-7, 11), (9, 11)))
        self.assertEqual(five_of(iron, ((2, 1), NIL)), ((4, 11), HALF, (23, 22), (-7, 11), (9, 11)))
        self.assertEqual(five_of(place=((1, 2), NIL), iron=BARE), NOUGHTS)

    def test_the_lower_row_does_not_go_into_it(self):
        numbers = [3, 5, 7, 11, 13, 17, 19, 23]
        self.assertEqual(five_of(rows_of(numbers + [29, 31, 37, 41]), HOME), five_of(rows_of(numbers + [0] * 4), HOME))

    def test_the_five_tells_the_field_of_the_iron_at_each_heading(self):
        stream = Stream(21)
        for at in range(200):
            iron = stream.iron()
            place = stream.place() if at % 5 else (stream.place()[0], NIL)
            five = five_of(iron, place)
            self.assertTrue(is_five(five))
            scale = number(strength_of(iron)) * number(place[0])
            for heading in (NORTH, EAST, SOUTH, WEST, STEER, stream.heading()):
                told = tuple(scale * each for each in force_at(five, heading))
                self.assertEqual(told, field_seen(iron, place, heading))

    def test_an_iron_of_hardly_any_strength(self):
        iron = rows_of([Fraction(1, HUGE) - 2, 0, 0, 1] + [0] * 8)
        self.assertEqual(strength_of(iron), fraction(Fraction(1, 2 * HUGE)))
        self.assertEqual(five_of(iron, LEVEL)[1], (2 * HUGE, 1))
        self.assertEqual(five_of(iron, LEVEL)[3], fraction(1 - 2 * HUGE))


class PlainIrons(unittest.TestCase):
    def test_by_hand(self):
        five = (ONE, (2, 1), (3, 1), (4, 1), (5, 1))
        told = rows_of([4, 4, 0, 20, 6, -4, 0, 30] + [0] * 4)
        self.assertEqual(plain_iron(five, ((10, 1), (7, 1))), told)
        self.assertEqual(plain_iron(place=((10, 1), NIL), five=five), told)

    def test_it_has_the_strength_1_and_the_five(self):
        stream = Stream(22)
        for _ in range(200):
            five, place = stream.five(), stream.place()
            iron = plain_iron(five, place)
            self.assertTrue(is_iron(iron))
            self.assertEqual(strength_of(iron), ONE)
            self.assertEqual(five_of(iron, place), five)
            self.assertEqual(iron[2], NOTHING)
        self.assertEqual(plain_iron(NOUGHTS, HOME), BARE)


class Joining(unittest.TestCase):
    def test_each_number_is_added_in_its_place(self):
        stream = Stream(23)
        for _ in range(100):
            numbers, others = [[stream.ratio() for _ in range(12)] for _ in range(2)]
            numbers[0] += 20
            numbers[5] += 20
            iron, piece = rows_of(numbers), rows_of(others)
            both = rows_of([each + other for each, other in zip(numbers, others)])
            self.assertEqual(joined(iron, piece), both)
            self.assertEqual(joined(piece=piece, iron=iron), both)
            self.assertEqual(joined(iron, BARE), iron)

    def test_a_piece_need_be_no_iron(self):
        self.assertEqual(joined(rows_of([9] + [0] * 11), rows_of([-3] + [0] * 11)), rows_of([6] + [0] * 11))

    def test_too_much_iron_comes_last(self):
        for a, e in ((-2, 0), (0, -2), (-5, 3), (-HUGE, 0)):
            with self.assertRaises(TooMuchIron) as caught:
                joined(BARE, rows_of([a, 0, 0, 0, 0, e] + [0] * 6))
            self.assertEqual(vars(caught.exception), {})
        joined(BARE, rows_of([Fraction(1, HUGE) - 2] + [0] * 11))
        drain = rows_of([-2] + [0] * 11)
        refused(self, joined, {"iron": drain, "piece": drain}, InvalidIron, drain)
        listed = list(drain)
        refused(self, joined, {"iron": BARE, "piece": listed}, InvalidPiece, listed)


class IronArguments(Arguments, unittest.TestCase):
    MODULE = "ironships.irons"
    CALLS = (
        (strength_of, ("iron",)), (five_of, ("iron", "place")), (plain_iron, ("five", "place")),
        (joined, ("iron", "piece")),
    )
    RIGHT = {"iron": HULL, "place": HOME, "five": (ONE, HALF, NIL, NIL, (-1, 3)), "piece": POST}
    ERRORS = {"iron": InvalidIron, "place": InvalidPlace, "five": InvalidFive, "piece": InvalidPiece}
    WRONG = {
        "iron": [(NOTHING,) * 2, [NOTHING] * 3, rows_of([-2] + [0] * 11), (NOTHING, list(NOTHING), NOTHING), LEVEL],
        "piece": [(NOTHING,) * 4, [NOTHING] * 3, (NOTHING, NOTHING[:3], NOTHING), NOUGHTS],
        "place": [(NIL, ONE), ((-1, 2), ONE), [ONE, NIL], NOTHING, (ONE, (2, 4)), ONE],
        "five": [[NIL] * 5, (NIL,) * 4, (NIL,) * 6, (NIL, NIL, NIL, NIL, (2, 2)), (0,) * 5, HULL],
    }

    def test_the_predicates_are_defined_where_they_are_listed(self):
        told = [each.__module__ for each in (is_iron, is_piece, is_place, is_five)]
        self.assertEqual(told, [self.MODULE] * 4)


if __name__ == "__main__":
    unittest.main()

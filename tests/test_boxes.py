"""Points [38] and [39] and the interface of boxes.py, with what points [3], [4] and [5] say of its arguments."""

import unittest
from fractions import Fraction
from itertools import product

from arguments import Arguments, index_by, refused
from ironships.bounds import is_within
from ironships.boxes import built, clearing_counts, fewest_pieces, is_box
from ironships.errors import (
    HighBelowLow, InvalidBox, InvalidCounts, InvalidFraction, InvalidIron, InvalidPlace, TooMuchIron,
)
from ironships.irons import five_of, is_iron, is_piece, joined
from ironships.seas import has_none_anywhere
from samples import HALF, HUGE, LEVEL, NIL, NOTHING, ONE, POST, STRANGE, Stream, number, rows_of

STEEL = rows_of([0, 0, 0, Fraction(1, 2)] + [0] * 8)
MAGNET = rows_of([0, 0, 0, Fraction(-1, 4)] + [0] * 8)
BALL = rows_of([1, 0, 0, 1, 0, 1, 0, 0, 0, 0, 0, 0])
PLAIN = rows_of([0] * 12)
PORT = ((1, 1), (2, 1))


def piece(**numbers):
    """A piece with these numbers and noughts else."""
    return rows_of([numbers.get(each, 0) for each in "a b c P d e f Q g j k R".split()])


def sum_of(iron, box, counts):
    """The twelve numbers of the iron with the counted pieces."""
    parts = [(iron, 1)] + [(each, count) for (each, _), count in zip(box, counts)]
    return [sum(many * number(part[row][at]) for part, many in parts) for row in range(3) for at in range(4)]


def ordered_counts(box):
    """All counts, the fewer first."""
    return sorted(product(*[range(many + 1) for _, many in box]), key=lambda counts: (sum(counts), counts))


class WhatIsOne(unittest.TestCase):
    def test_boxes(self):
        for value in (
            ((MAGNET, 1),), ((MAGNET, 3),), ((MAGNET, 2), (BALL, 1), (STEEL, 3), (PLAIN, 3)), ((MAGNET, 1),) * 4,
            ((piece(a=-5), 1),), ((piece(k=HUGE), 2), (POST, 2)),
        ):
            self.assertIs(is_box(value), True)
            self.assertIs(is_box(value=value), True)

    def test_no_boxes(self):
        for value in STRANGE + [
            (), ((MAGNET, 1),) * 5, [(MAGNET, 1)], (MAGNET, 1), ((MAGNET, 0),), ((MAGNET, 4),), ((MAGNET, 6),),
            ((MAGNET, -1),), ((MAGNET, True),), ((MAGNET, (1, 1)),), ((MAGNET, None),), ([MAGNET, 1],),
            ((MAGNET, 1, 1),), ((MAGNET,),), ((1, MAGNET),), ((list(MAGNET), 1),), ((MAGNET[:2], 1),),
            ((MAGNET, 1), (MAGNET, "1")), ((MAGNET, 1), None), (((MAGNET, 1),),), ((MAGNET, HUGE),),
        ]:
            with self.subTest(repr(value)[:60]):
                self.assertIs(is_box(value), False)


class Built(unittest.TestCase):
    def test_by_hand(self):
        self.assertEqual(built(STEEL, ((MAGNET, 3),), (1,)), piece(P=Fraction(1, 4)))
        self.assertEqual(built(STEEL, ((MAGNET, 3),), (3,)), piece(P=Fraction(-1, 4)))
        self.assertEqual(built(STEEL, ((MAGNET, 3),), (0,)), STEEL)
        self.assertEqual(built(POST, ((MAGNET, 1), (BALL, 2)), (1, 2)), piece(a=2, e=2, P=Fraction(7, 4), R=1))
        self.assertEqual(built(iron=POST, box=((MAGNET, 3),) * 4, counts=(0, 0, 0, 0)), POST)

    def test_it_is_joined_with_each_piece_as_often_as_counted(self):
        stream = Stream(1)
        for _ in range(60):
            iron = stream.iron()
            box = tuple((rows_of([abs(stream.ratio()) for _ in range(12)]), stream.whole(1, 3))
                        for _ in range(stream.whole(1, 4)))
            counts = tuple(stream.whole(0, many) for _, many in box)
            told = iron
            for (each, _), count in zip(box, counts):
                for _ in range(count):
                    told = joined(told, each)
            self.assertEqual(built(iron, box, counts), told)
            self.assertEqual(told, rows_of(sum_of(iron, box, counts)))

    def test_what_is_no_iron_on_the_way(self):
        box = ((piece(a=-3), 2), (piece(e=2, a=2), 3))
        for counts in ((1, 0), (2, 0), (2, 1)):
            with self.assertRaises(TooMuchIron) as caught:
                built(PLAIN, box, counts)
            self.assertEqual(vars(caught.exception), {})
        self.assertEqual(built(PLAIN, box, (1, 1)), piece(a=-1, e=2))
        self.assertEqual(built(PLAIN, box, (2, 3)), piece(e=6))
        self.assertEqual(built(PLAIN, box[::-1], (3, 2)), piece(e=6))

    def test_just_no_strength(self):
        box = ((piece(a=-1), 3), (piece(e=Fraction(-1, HUGE)), 1))
        self.assertTrue(is_iron(built(PLAIN, box, (1, 1))))
        for counts in ((2, 0), (2, 1), (3, 0)):
            with self.assertRaises(TooMuchIron):
                built(PLAIN, box, counts)
        self.assertEqual(built(piece(a=Fraction(1, HUGE)), box, (2, 0)), piece(a=Fraction(1, HUGE) - 2))


class FewestPieces(unittest.TestCase):
    def test_by_hand(self):
        self.assertEqual(fewest_pieces(STEEL, PORT, ((MAGNET, 3),), (-1, 3), (1, 3)), (1,))
        self.assertEqual(fewest_pieces(STEEL, PORT, ((MAGNET, 3),), NIL, NIL), (2,))
        self.assertIsNone(fewest_pieces(STEEL, PORT, ((MAGNET, 1),), NIL, NIL))
        # Noughts alone: as she is, her tangents go up to 1 / root(3).
        self.assertEqual(fewest_pieces(STEEL, PORT, ((MAGNET, 3),), (-3, 5), (3, 5)), (0,))
        self.assertEqual(fewest_pieces(STEEL, PORT, ((MAGNET, 3),) * 4, (-3, 5), (3, 5)), (0, 0, 0, 0))

    def test_equal_sums(self):
        box = ((MAGNET, 3), (MAGNET, 1), (MAGNET, 2))
        self.assertEqual(fewest_pieces(STEEL, PORT, box, (-1, 3), (1, 3)), (0, 0, 1))
        self.assertEqual(fewest_pieces(STEEL, PORT, box, NIL, NIL), (0, 0, 2))
        self.assertEqual(fewest_pieces(STEEL, PORT, box[:2], NIL, NIL), (1, 1))
        self.assertEqual(fewest_pieces(STEEL, PORT, box[1:], NIL, NIL), (0, 2))

    def test_the_lesser_sum_goes_before_the_lesser_tuple(self):
        strong = piece(P=Fraction(-1, 2))
        self.assertEqual(fewest_pieces(STEEL, PORT, ((strong, 1), (MAGNET, 3)), NIL, NIL), (1, 0))
        self.assertEqual(fewest_pieces(STEEL, PORT, ((MAGNET, 3), (strong, 1)), NIL, NIL), (0, 1))

    def test_what_has_no_strength_is_left_out(self):
        # With one there would be no strength; its numbers without a sign would keep the bounds.
        box = ((piece(a=-2, e=-2, P=Fraction(-1, 2)), 3),)
        self.assertIsNone(fewest_pieces(STEEL, PORT, box, NIL, NIL))
        # Through what is no iron to one.
        box = ((piece(a=-2, e=-2, P=Fraction(-1, 2)), 1), (piece(a=2, e=2), 1))
        self.assertEqual(fewest_pieces(STEEL, PORT, box, NIL, NIL), (1, 1))

    def test_the_part_to_the_north_has_to_be_above_nought(self):
        # With one ball of this kind the needle points south everywhere, with tangents 0.
        iron, box = piece(P=Fraction(1, 2)), ((piece(P=Fraction(-1, 2), a=-4, e=4), 1), (MAGNET, 2))
        self.assertEqual(fewest_pieces(iron, PORT, box, NIL, NIL), (0, 2))

    def test_it_is_at_the_place(self):
        # The soft iron does it at one place, the hard iron at another one.
        box = ((piece(c=Fraction(-1, 4)), 3), (MAGNET, 3))
        self.assertEqual(fewest_pieces(STEEL, PORT, box, NIL, NIL), (1, 0))
        self.assertEqual(fewest_pieces(STEEL, ((1, 1), (1, 1)), box, NIL, NIL), (0, 2))
        self.assertEqual(fewest_pieces(STEEL, LEVEL, box, NIL, NIL), (0, 2))

    def test_no_fewer_counts_do_it(self):
        stream, found = Stream(2), []
        for _ in range(60):
            numbers, place = [stream.ratio(2, 3) / 4 for _ in range(12)], stream.place()
            iron = rows_of(numbers)
            # Pieces that mostly take away a share of what the iron does.
            box = tuple((rows_of([-each * Fraction(stream.whole(-1, 3), 4) for each in numbers]), stream.whole(1, 3))
                        for _ in range(stream.whole(1, 3)))
            low, high = (-1, stream.whole(1, 4)), (1, stream.whole(1, 4))
            told = fewest_pieces(iron, place, box, low, high)
            found.append(None if told is None else sum(told) > 0)
            for counts in ordered_counts(box):
                numbers = sum_of(iron, box, counts)
                does = 2 + numbers[0] + numbers[5] > 0 and is_within(five_of(rows_of(numbers), place), low, high)
                self.assertIs(does, counts == told)
                if does:
                    break
        self.assertGreater(min(found.count(each) for each in (None, True, False)), 8)


class ClearingCounts(unittest.TestCase):
    def test_by_hand(self):
        self.assertEqual(clearing_counts(STEEL, ((MAGNET, 3),)), (2,))
        self.assertIsNone(clearing_counts(STEEL, ((BALL, 2),)))
        self.assertIsNone(clearing_counts(STEEL, ((MAGNET, 1),)))
        self.assertEqual(clearing_counts(PLAIN, ((MAGNET, 1),)), (0,))
        self.assertEqual(clearing_counts(POST, ((BALL, 1),) * 4), (0, 0, 0, 0))

    def test_each_number_has_to_go(self):
        for name in ("b", "c", "P", "d", "f", "Q"):
            iron, fix = piece(**{name: 3}), piece(**{name: -1, "R": 7})
            self.assertEqual(clearing_counts(iron, ((fix, 3),)), (3,))
            self.assertIsNone(clearing_counts(iron, ((fix, 2),)))
            self.assertIsNone(clearing_counts(piece(**{name: 3 + Fraction(1, HUGE)}), ((fix, 3),)))
        # a and e have to be equal, whatever they are.
        self.assertEqual(clearing_counts(piece(a=1), ((piece(e=Fraction(1, 2)), 3),)), (2,))
        self.assertEqual(clearing_counts(piece(e=1), ((piece(e=-1), 1), (piece(a=1), 1))), (0, 1))
        self.assertIsNone(clearing_counts(piece(a=1), ((piece(a=2, e=2), 3),)))

    def test_several_counts_that_clear(self):
        box = ((MAGNET, 3), (piece(P=Fraction(-1, 2)), 1), (piece(P=Fraction(1, 4)), 3), (MAGNET, 2))
        self.assertEqual(clearing_counts(STEEL, box), (0, 1, 0, 0))
        self.assertEqual(clearing_counts(STEEL, (box[0], box[2], box[3])), (0, 0, 2))
        self.assertEqual(clearing_counts(STEEL, (box[0], box[2])), (2, 0))
        self.assertEqual(clearing_counts(piece(P=Fraction(3, 4)), (box[0], box[3])), (1, 2))

    def test_strength_has_to_be_left(self):
        # One fix clears, but takes the strength; the next one gives some back.
        box = ((piece(P=Fraction(-1, 2), a=-1, e=-1), 1), (piece(a=1, e=1), 1))
        self.assertEqual(clearing_counts(STEEL, box), (1, 1))
        self.assertIsNone(clearing_counts(STEEL, box[:1]))
        self.assertIsNone(clearing_counts(STEEL, ((piece(P=Fraction(-1, 2), a=-2, e=-2), 1),)))
        nearly = piece(P=Fraction(-1, 2), a=Fraction(1, HUGE) - 1, e=Fraction(1, HUGE) - 1)
        self.assertEqual(clearing_counts(STEEL, ((nearly, 1),)), (1,))

    def test_no_fewer_counts_clear(self):
        stream, found = Stream(3), []
        for _ in range(150):
            names = "b c P d f Q".split()
            box = tuple((piece(**{names[stream.whole(0, 5)]: stream.whole(-2, 2), "a": stream.whole(-1, 1)}),
                         stream.whole(1, 3)) for _ in range(stream.whole(1, 4)))
            counts = [stream.whole(0, many) for _, many in box]
            fixed = sum_of(PLAIN, box, [-count for count in counts])
            if 2 + fixed[0] + fixed[5] <= 0:
                continue
            iron = rows_of(fixed)
            told = clearing_counts(iron, box)
            found.append(told == tuple(counts))
            for each in ordered_counts(box):
                numbers = sum_of(iron, box, each)
                left = numbers[1:5] + numbers[6:8]
                does = left == [0] * 6 and numbers[0] == numbers[5] and 2 + 2 * numbers[0] > 0
                self.assertIs(does, each == told)
                if does:
                    self.assertTrue(has_none_anywhere(built(iron, box, each)))
                    break
        self.assertGreater(min(found.count(True), found.count(False)), 15)


def wrong_count(value, told):
    """What the error of counts keeps."""
    if type(value) is not tuple or len(value) != len(told["box"]):
        return None
    ways = zip(value, told["box"])
    return [at for at, (each, (_, many)) in enumerate(ways) if type(each) is not int or not 0 <= each <= many][0]


def is_pair(value):
    return type(value) is tuple and len(value) == 2 and is_piece(value[0]) and type(value[1]) is int and 1 <= value[1] <= 3


class BoxArguments(Arguments, unittest.TestCase):
    MODULE = "ironships.boxes"
    CALLS = (
        (built, ("iron", "box", "counts")), (fewest_pieces, ("iron", "place", "box", "low", "high")),
        (clearing_counts, ("iron", "box")),
    )
    RIGHT = {
        "iron": STEEL, "box": ((MAGNET, 3), (BALL, 1)), "counts": (2, 1), "place": PORT, "low": (-1, 2), "high": HALF,
    }
    ERRORS = {
        "iron": InvalidIron, "box": InvalidBox, "counts": InvalidCounts, "place": InvalidPlace,
        "low": InvalidFraction, "high": InvalidFraction,
    }
    WRONG = {
        "iron": [(NOTHING,) * 2, [NOTHING] * 3, rows_of([-2] + [0] * 11), (NOTHING, list(NOTHING), NOTHING), LEVEL],
        "box": [
            (), [(MAGNET, 3)], ((MAGNET, 3),) * 5, ((MAGNET, 3), (MAGNET, 4)), ((MAGNET, 3), [MAGNET, 3]),
            ((MAGNET, 0),) * 6, (MAGNET, 3), ((MAGNET, 1), (BALL, 2), (MAGNET[0], 1)), ((MAGNET, 1),) * 4 + (None,),
        ],
        "counts": [
            (2,), (2, 1, 0), [2, 1], (2, 2), (4, 1), (-1, 0), (0, -1), ((2, 1), 0), (2, "1"), (), (3, None), (HUGE, 0),
        ],
        "place": [(NIL, ONE), ((-1, 2), ONE), [ONE, NIL], NOTHING, (ONE,)],
        "low": [[1, 2], 0, 1, (2, 4), (1, -2)],
        "high": [[1, 2], 0, 1, (2, 4), (1, -2)],
    }
    INDEXES = {"box": index_by(is_pair, 4), "counts": wrong_count}
    LET = {"counts": ("(0, 0)", "(1, 0)")}

    def test_the_index_of_a_wrong_pair(self):
        right = (MAGNET, 3)
        for box, index in (
            ((), None), ([right], None), ((right, None), 1), ((right,) * 5, 4), ((right,) * 4 + (None,), 4),
            ((right, right, (MAGNET, True), right, right), 2), ((right, right, right, (MAGNET, 4)), 3), ((MAGNET,), 0),
        ):
            refused(self, clearing_counts, {"iron": STEEL, "box": box}, InvalidBox, index, "index")

    def test_the_index_of_a_wrong_count(self):
        box = ((MAGNET, 3), (BALL, 1), (MAGNET, 2), (BALL, 3))
        for counts, index in (
            ((3, 1, 2), None), ((3, 1, 2, 3, 0), None), ([3, 1, 2, 3], None), (None, None), (3, None),
            ((4, 1, 2, 3), 0), ((3, 2, 3, 3), 1), ((3, 1, 3, 4), 2), ((3, 1, 2, 4), 3), ((0, 0, 0, -1), 3),
            ((3, True, 2, 3), 1), ((3, 1, False, 9), 2), ((0, 0, 0, "0"), 3), ((0, (0, 1), 0, 0), 1),
        ):
            refused(self, built, {"iron": STEEL, "box": box, "counts": counts}, InvalidCounts, index, "index")
        built(STEEL, box, (3, 1, 2, 3))

    def test_lost_strength_comes_last(self):
        told = {"iron": STEEL, "box": ((piece(a=-5), 2),), "counts": (3,)}
        refused(self, built, told, InvalidCounts, 0, "index")
        told.update(box=((piece(a=-5), 0),), counts=(1,))
        refused(self, built, told, InvalidBox, 0, "index")

    def test_bounds_the_wrong_way_round(self):
        told = {"iron": STEEL, "place": PORT, "box": ((MAGNET, 3),), "low": ONE, "high": HALF}
        refused(self, fewest_pieces, told, HighBelowLow, HALF)
        told.update(high=(2, 4))
        refused(self, fewest_pieces, told, InvalidFraction, told["high"])
        told.update(box=(), high=HALF)
        refused(self, fewest_pieces, told, InvalidBox, None, "index")


if __name__ == "__main__":
    unittest.main()

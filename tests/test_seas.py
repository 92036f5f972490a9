"""Points [33] to [37] and the interface of seas.py, with what points [3], [4] and [5] say of its arguments."""

import unittest
from fractions import Fraction
from itertools import combinations

from arguments import Arguments, index_by, refused
from ironships.alike import are_alike
from ironships.bounds import is_within
from ironships.errors import (
    HighBelowLow, InvalidFive, InvalidFraction, InvalidIron, InvalidPlace, InvalidSea, SameDip,
)
from ironships.irons import five_of, is_place, joined, plain_iron
from ironships.needles import tangent_at
from ironships.numbers import compare, is_surd, near
from ironships.rounds import round_word
from ironships.seas import (
    are_alike_anywhere, has_none_anywhere, is_sea, is_within_over, parting_row, place_between, round_shares,
    sea_shares, soft_and_hard, spot_of, word_over,
)
from samples import (
    EAST, HALF, HUGE, LEVEL, NIL, NORTH, NOTHING, ONE, POST, STEER, STRANGE, Stream, five_of as numbers_five,
    fraction, number, rows_of,
)

STEEL = rows_of([0, 0, 0, Fraction(1, 2)] + [0] * 8)
PORT, CAPE = ((1, 1), (2, 1)), ((1, 4), (2, 1))
HERE, THERE = ((0, 1), 0, (0, 1)), ((1, 1), 0, (0, 1))
LITTLE = Fraction(1, 10 ** 40)


def at_spot(x, y):
    """The place with this spot."""
    return (fraction(1 / Fraction(x)), fraction(Fraction(y) / Fraction(x)))


def spot(place):
    """The spot of a place, in Python's numbers."""
    force, down = [number(each) for each in place]
    return 1 / force, down / force


def sea_at(*spots):
    return tuple(at_spot(x, y) for x, y in spots)


def turn(first, second, third):
    """Above 0 as three spots turn to the left, below as to the right, 0 if they are on one line."""
    (a, b), (c, d), (e, f) = first, second, third
    return (c - a) * (f - b) - (d - b) * (e - a)


def is_between(first, second, point):
    """Whether a spot on one line with two others is between them, or on one of both."""
    return all(min(a, b) <= c <= max(a, b) for a, b, c in zip(first, second, point))


def is_in(sea, place):
    """Whether a place is in a sea: some two or three marks are round about it (Caratheodory)."""
    marks, point = [spot(mark) for mark in sea], spot(place)
    for first in marks:
        for second in marks:
            if turn(first, second, point) == 0 and is_between(first, second, point):
                return True
    for three in combinations(marks, 3):
        turns = [turn(three[at], three[(at + 1) % 3], point) for at in range(3)]
        if turn(*three) != 0 and (min(turns) >= 0 or max(turns) <= 0):
            return True
    return False


def random_sea(stream, most=6):
    """Marks that are mostly near to one another, some of them equal or on one line."""
    marks = [at_spot(stream.whole(1, 4), stream.whole(-2, 2)) for _ in range(stream.whole(1, most))]
    return tuple(marks)


def weighed(sea, shares):
    """The place at weighed marks."""
    marks = [spot(mark) for mark in sea]
    return at_spot(*[sum(share * mark[at] for share, mark in zip(shares, marks)) for at in range(2)])


def hard_iron(fore, side=0, down=0, other_down=0):
    """An iron without soft iron before and aside: its word hangs on P, Q, c and f alone."""
    return rows_of([0, 0, down, fore, 0, 0, other_down, side, 0, 0, 0, 0])


class WhatIsOne(unittest.TestCase):
    def test_seas(self):
        for value in ((PORT,), (PORT, CAPE), (PORT,) * 6, (PORT, PORT), sea_at((1, 0), (2, 0), (3, 0))):
            self.assertIs(is_sea(value), True)
            self.assertIs(is_sea(value=value), True)

    def test_no_seas(self):
        for value in STRANGE + [
            (), (PORT,) * 7, [PORT], PORT, ((NIL, ONE),), (PORT, ((-1, 2), ONE)), (PORT, list(CAPE)), (PORT, None),
            (PORT, CAPE, ()), ((PORT, CAPE),), (PORT,) * 50,
        ]:
            with self.subTest(repr(value)[:60]):
                self.assertIs(is_sea(value), False)


class Spots(unittest.TestCase):
    def test_by_hand(self):
        self.assertEqual(spot_of(PORT), (ONE, (2, 1)))
        self.assertEqual(spot_of(CAPE), ((4, 1), (8, 1)))
        self.assertEqual(spot_of(((2, 3), (-5, 6))), ((3, 2), (-5, 4)))
        self.assertEqual(spot_of(place=((HUGE, 3), NIL)), ((3, HUGE), NIL))

    def test_each_spot_is_that_of_one_place(self):
        stream = Stream(1)
        for _ in range(100):
            place = stream.place()
            self.assertEqual(tuple(number(each) for each in spot_of(place)), spot(place))
            self.assertEqual(at_spot(*spot(place)), place)


class PlacesBetween(unittest.TestCase):
    def test_by_hand(self):
        self.assertEqual(place_between(PORT, CAPE, (1, 3)), ((1, 2), (2, 1)))
        self.assertEqual(place_between(PORT, CAPE, NIL), PORT)
        self.assertEqual(place_between(PORT, CAPE, ONE), CAPE)
        self.assertEqual(place_between(CAPE, CAPE, (5, 7)), CAPE)
        self.assertEqual(place_between(((1, 1), NIL), ((1, 3), ONE), HALF), ((1, 2), (3, 4)))

    def test_it_goes_straight_with_the_spot(self):
        stream = Stream(2)
        for _ in range(100):
            place, other = stream.place(), stream.place()
            for share in (0, 1, Fraction(stream.whole(0, 9), 9), Fraction(1, HUGE), Fraction(HUGE - 1, HUGE)):
                told = place_between(place, other, fraction(share))
                self.assertTrue(is_place(told))
                both = list(zip(spot(place), spot(other)))
                self.assertEqual(spot(told), tuple(x + share * (y - x) for x, y in both))
                self.assertEqual(place_between(other, place, fraction(1 - share)), told)

    def test_shares_beyond(self):
        for share in ((-1, 1), (-1, HUGE), (HUGE + 1, HUGE), (2, 1), (-HUGE, 1), (4, 3)):
            told = {"place": PORT, "other": CAPE, "fraction": share}
            refused(self, place_between, told, InvalidFraction, share)


class InASea(unittest.TestCase):
    def check(self, sea, place):
        """Whether the place is in the sea; what is told of it is looked at."""
        shares, row = sea_shares(sea, place), parting_row(sea, place)
        self.assertEqual(shares is None, row is not None)
        if shares is not None:
            self.assertIs(type(shares), tuple)
            self.assertEqual(len(shares), len(sea))
            told = [number(share) for share in shares]
            self.assertTrue(min(told) >= 0 and sum(told) == 1)
            self.assertEqual(weighed(sea, told), place)
            return True
        self.assertIs(type(row), tuple)
        u, v, w = [number(each) for each in row]
        self.assertTrue(all(u * x + v * y + w >= 0 for x, y in [spot(mark) for mark in sea]))
        x, y = spot(place)
        self.assertLess(u * x + v * y + w, 0)
        return False

    def test_one_mark(self):
        self.assertEqual(sea_shares((PORT,), PORT), (ONE,))
        for x, y in ((1, 2 + LITTLE), (1, 2 - LITTLE), (1 + LITTLE, 2), (1 - LITTLE, 2), (4, 8), (1, -2)):
            self.assertIs(self.check((PORT,), at_spot(x, y)), False)

    def test_two_marks(self):
        sea = sea_at((1, 2), (4, 8))
        self.assertEqual(sea_shares(sea, at_spot(2, 4)), ((2, 3), (1, 3)))
        self.assertEqual(sea_shares(sea, sea[0]), (ONE, NIL))
        self.assertEqual(sea_shares(sea, sea[1]), (NIL, ONE))
        for x, y, told in (
            (3, 6, True), (1 + LITTLE, 2 + 2 * LITTLE, True), (1 - LITTLE, 2 - 2 * LITTLE, False),
            (4 + LITTLE, 8 + 2 * LITTLE, False), (2, 4 + LITTLE, False), (2, 4 - LITTLE, False), (5, 10, False),
        ):
            self.assertIs(self.check(sea, at_spot(x, y)), told)

    def test_equal_marks(self):
        self.assertIs(self.check((PORT,) * 6, PORT), True)
        self.assertIs(self.check((PORT,) * 6, CAPE), False)
        sea = sea_at((1, 0), (1, 0), (3, 0), (3, 0), (1, 0))
        for x, y, told in ((1, 0, True), (2, 0, True), (3, 0, True), (3 + LITTLE, 0, False), (2, LITTLE, False)):
            self.assertIs(self.check(sea, at_spot(x, y)), told)

    def test_marks_on_one_line(self):
        sea = sea_at((2, 1), (1, 0), (5, 4), (3, 2))
        for x, y, told in (
            (1, 0, True), (5, 4, True), (4, 3, True), (5 + LITTLE, 4 + LITTLE, False),
            (1 - LITTLE, -LITTLE, False), (3, 2 + LITTLE, False), (3, 2 - LITTLE, False),
        ):
            self.assertIs(self.check(sea, at_spot(x, y)), told)

    def test_three_marks(self):
        sea = sea_at((1, 0), (5, 0), (1, 4))
        for x, y, told in (
            (2, 1, True), (3, 2, True), (3, 2 + LITTLE, False), (3, 2 - LITTLE, True), (1, 2, True),
            (1 - LITTLE, 2, False), (3, 0, True), (3, -LITTLE, False), (5, 0, True), (5 + LITTLE, 0, False),
            (1, 4, True), (1, 4 + LITTLE, False),
        ):
            self.assertIs(self.check(sea, at_spot(x, y)), told)

    def test_six_marks(self):
        sea = sea_at((1, 0), (2, -1), (4, 0), (4, 2), (2, 3), (2, 1))
        for mark in sea:
            self.assertIs(self.check(sea, mark), True)
        for x, y, told in (
            (3, 1, True), (2, 1, True), (4, 1, True), (4 + LITTLE, 1, False), (3, Fraction(5, 2), True),
            (3, Fraction(5, 2) + LITTLE, False), (Fraction(3, 2), Fraction(-1, 2), True),
            (Fraction(3, 2) - LITTLE, Fraction(-1, 2), False), (Fraction(3, 2), Fraction(3, 2) + LITTLE, False),
        ):
            self.assertIs(self.check(sea, at_spot(x, y)), told)

    def test_just_those_with_marks_round_about(self):
        stream, told = Stream(3), []
        for _ in range(500):
            sea = random_sea(stream)
            for _ in range(3):
                place = at_spot(Fraction(stream.whole(2, 16), 4), Fraction(stream.whole(-8, 8), 4))
                told.append(self.check(sea, place))
                self.assertIs(told[-1], is_in(sea, place))
        self.assertGreater(told.count(True), 150)
        self.assertGreater(told.count(False), 150)

    def test_numbers_of_any_size(self):
        sea = sea_at((HUGE, 0), (Fraction(1, HUGE), Fraction(HUGE, 7)), (3, Fraction(-HUGE, HUGE + 2)))
        shares = (Fraction(1, HUGE), Fraction(3, 7), Fraction(4, 7) - Fraction(1, HUGE))
        self.assertIs(self.check(sea, weighed(sea, shares)), True)
        self.assertIs(self.check(sea, weighed(sea, (-shares[0], shares[1], 1 - shares[1] + shares[0]))), False)

    def test_all_places_between_marks_are_in_the_sea(self):
        for share in (NIL, (1, 7), HALF, ONE):
            self.assertIs(self.check((CAPE, PORT), place_between(PORT, CAPE, share)), True)


class Words(unittest.TestCase):
    def test_round(self):
        # B is x / 2: round where x is below 2.
        self.assertEqual(word_over(STEEL, (PORT,)), "round")
        self.assertEqual(word_over(STEEL, sea_at((2 - LITTLE, 5), (1, -7))), "round")
        self.assertIsNone(word_over(STEEL, (PORT, CAPE)))
        self.assertIsNone(word_over(STEEL, (CAPE, PORT)))
        self.assertIsNone(word_over(STEEL, sea_at((1, 0), (1, 1), (1, 2), (1, 3), (1, 4), (2, 0))))
        self.assertEqual(word_over(STEEL, sea_at((1, 0), (1, 1), (1, 2), (1, 3), (1, 4), (2 - LITTLE, 0))), "round")

    def test_backward(self):
        # D is 2, W is - 3, T1 is - B and B is x: backward where x is below 3.
        iron = rows_of([2, 0, 0, 1, 0, -2, 0, 0, 0, 0, 0, 0])
        self.assertEqual(word_over(iron, sea_at((1, 0), (3 - LITTLE, 3))), "backward")
        self.assertIsNone(word_over(iron, sea_at((1, 0), (3, 3))))
        self.assertIsNone(word_over(iron, sea_at((4, 0), (1, 3))))

    def test_marks_that_have_another_word_in_common(self):
        for word, iron in (
            ("swings", STEEL), ("dead", hard_iron(Fraction(1, 4))),
            ("stuck", plain_iron(numbers_five(0, 3, 0, 1, 0), at_spot(4, 0))),
        ):
            sea = sea_at((4, 0), (4, 2))
            self.assertEqual([round_word(five_of(iron, mark)) for mark in sea], [word, word])
            self.assertIsNone(word_over(iron, sea))
            self.assertIsNone(word_over(iron, sea[:1]))

    def test_the_word_is_that_of_all_places(self):
        stream, found = Stream(4), {"round": 0, "backward": 0, None: 0}
        for _ in range(300):
            numbers = [stream.ratio(2, 3) for _ in range(12)]
            if 2 + numbers[0] + numbers[5] <= 0:
                continue
            for at in (2, 3, 6, 7):
                numbers[at] /= 4
            iron, sea = rows_of(numbers), random_sea(stream, 4)
            word = word_over(iron, sea)
            found[word] += 1
            words = [round_word(five_of(iron, mark)) for mark in sea]
            if word is None:
                self.assertTrue(any(each not in ("round", "backward") for each in words))
                continue
            self.assertEqual(set(words), {word})
            for _ in range(5):
                shares = [Fraction(stream.whole(1, 9)) for _ in sea]
                place = weighed(sea, [share / sum(shares) for share in shares])
                self.assertEqual(round_word(five_of(iron, place)), word)
        self.assertGreater(min(found.values()), 10)


class Bounds(unittest.TestCase):
    def test_by_hand(self):
        self.assertIs(is_within_over(STEEL, (PORT,), (-1, 1), ONE), True)
        self.assertIs(is_within_over(STEEL, (PORT,), (-1, 2), HALF), False)
        self.assertIs(is_within_over(STEEL, (PORT, CAPE), (-9, 1), (9, 1)), False)
        # With B = 3 / 5 the tangents go from - 3 / 4 to 3 / 4.
        sea = sea_at((1, 0), (Fraction(6, 5), 5))
        self.assertIs(is_within_over(STEEL, sea, (-3, 4), (3, 4)), True)
        self.assertIs(is_within_over(STEEL, sea, (-3, 4), fraction(Fraction(3, 4) - LITTLE)), False)
        self.assertIs(is_within_over(STEEL, sea, fraction(LITTLE - Fraction(3, 4)), (3, 4)), False)
        self.assertIs(is_within_over(STEEL, sea[::-1], (-3, 4), (3, 4)), True)
        self.assertIs(is_within_over(hard_iron(0), sea, NIL, NIL), True)

    def test_where_it_holds_it_holds_at_all_places(self):
        stream, told = Stream(5), []
        for _ in range(150):
            iron = rows_of([stream.ratio(1, 3) / 6 for _ in range(12)])
            sea, low, high = random_sea(stream, 3), fraction(-Fraction(stream.whole(0, 8), 8)), (1, 2)
            told.append(is_within_over(iron, sea, low, high))
            shares = [Fraction(stream.whole(1, 9)) for _ in sea]
            places = list(sea) + [weighed(sea, [share / sum(shares) for share in shares])]
            well = [is_within(five_of(iron, place), low, high) for place in places]
            self.assertIs(all(well[:-1]), told[-1])
            if told[-1]:
                self.assertTrue(well[-1])
        self.assertGreater(min(told.count(True), told.count(False)), 30)


class RoundShares(unittest.TestCase):
    def word_at(self, iron, place, other, share):
        return round_word(five_of(iron, place_between(place, other, fraction(share))))

    def check(self, iron, place, other):
        """The ends, looked at from both sides."""
        ends = round_shares(iron, place, other)
        samples = [Fraction(at, 24) for at in range(25)]
        if ends is None:
            self.assertTrue(all(self.word_at(iron, place, other, share) != "round" for share in samples))
            return None
        low, high = ends
        self.assertIs(type(ends), tuple)
        self.assertTrue(is_surd(low) and is_surd(high))
        self.assertEqual((compare(low, high), compare(HERE, low) <= 0, compare(high, THERE) <= 0), (-1, True, True))
        for share in samples:
            told = compare(low, (fraction(share), 0, NIL)), compare((fraction(share), 0, NIL), high)
            word = self.word_at(iron, place, other, share)
            if told == (-1, -1):
                self.assertEqual(word, "round")
            elif 1 in told:
                self.assertNotIn(word, ("round", "dead"))
        for end, edge, inward in ((low, HERE, 1), (high, THERE, -1)):
            self.check_end(iron, place, other, end, edge, inward)
        return ends

    def check_end(self, iron, place, other, end, edge, inward):
        many = 10 ** 9
        n, is_just = near(end, many)
        below, above = Fraction(n, many), Fraction(n + 1, many)
        inside, outside = (above, below) if inward == 1 else (below, above)
        if is_just:
            inside, outside = below + Fraction(inward, many), below - Fraction(inward, many)
        self.assertEqual(self.word_at(iron, place, other, inside), "round")
        if end == edge:
            # An end that is no root is one of the whole way, so it is round there; or else it is dead.
            self.assertIn(self.word_at(iron, place, other, number(end[0])), ("round", "dead"))
            return
        self.assertEqual(self.word_at(iron, place, other, outside), "swings")
        if end[1] == 0:
            self.assertEqual(self.word_at(iron, place, other, number(end[0])), "dead")

    def test_round_at_one_end(self):
        self.assertEqual(self.check(STEEL, PORT, CAPE), (HERE, ((1, 3), 0, NIL)))
        self.assertEqual(self.check(STEEL, CAPE, PORT), (((2, 3), 0, NIL), THERE))

    def test_round_at_all_shares(self):
        self.assertEqual(self.check(STEEL, PORT, PORT), (HERE, THERE))
        self.assertEqual(self.check(STEEL, at_spot(1, 0), at_spot(Fraction(7, 4), 9)), (HERE, THERE))
        self.assertEqual(self.check(hard_iron(0), PORT, CAPE), (HERE, THERE))
        # c and P take one another away on this way.
        self.assertEqual(self.check(hard_iron(2, 0, -1), at_spot(1, 2), at_spot(3, 6)), (HERE, THERE))

    def test_round_at_no_share(self):
        self.assertIsNone(self.check(STEEL, CAPE, CAPE))
        self.assertIsNone(self.check(STEEL, at_spot(3, 0), at_spot(7, 0)))
        self.assertIsNone(self.check(STEEL, at_spot(7, 0), at_spot(3, 0)))
        # Dead at the one end, and swings behind it.
        self.assertIsNone(self.check(STEEL, at_spot(2, 0), at_spot(7, 0)))
        self.assertIsNone(self.check(STEEL, at_spot(7, 0), at_spot(2, 0)))
        self.assertIsNone(self.check(STEEL, at_spot(2, 0), at_spot(2, 5)))

    def test_dead_at_an_end_and_round_beside_it(self):
        self.assertEqual(self.check(STEEL, at_spot(2, 0), at_spot(1, 5)), (HERE, THERE))
        self.assertEqual(self.check(STEEL, at_spot(1, 0), at_spot(2, 5)), (HERE, THERE))
        # B goes from - 1 to 1, both dead.
        iron = hard_iron(0, 0, 1)
        self.assertEqual(self.check(iron, at_spot(1, -1), at_spot(1, 1)), (HERE, THERE))

    def test_round_between_both_ends(self):
        # B goes from - 2 to 2.
        iron = hard_iron(0, 0, 1)
        self.assertEqual(self.check(iron, at_spot(1, -2), at_spot(1, 2)), (((1, 4), 0, NIL), ((3, 4), 0, NIL)))
        # C is 1 / 2 beside it: |B| has to be below root(3 / 4).
        iron = hard_iron(0, Fraction(1, 2), 1)
        ends = self.check(iron, at_spot(1, -2), at_spot(1, 2))
        self.assertEqual(ends, (((1, 2), -1, (3, 64)), ((1, 2), 1, (3, 64))))

    def test_dead_on_the_way_and_round_nowhere(self):
        # T touches the circle half way.
        iron = hard_iron(0, 1, 1)
        self.assertEqual(self.word_at(iron, at_spot(1, -2), at_spot(1, 2), Fraction(1, 2)), "dead")
        self.assertIsNone(self.check(iron, at_spot(1, -2), at_spot(1, 2)))
        iron = hard_iron(0, 1 + LITTLE, 1)
        self.assertIsNone(round_shares(iron, at_spot(1, -2), at_spot(1, 2)))
        iron = hard_iron(0, 1 - LITTLE, 1)
        low, high = round_shares(iron, at_spot(1, -2), at_spot(1, 2))
        self.assertEqual((compare(low, ((1, 2), 0, NIL)), compare(high, ((1, 2), 0, NIL))), (-1, 1))

    def test_no_share_without_w_above_nought(self):
        for d in (1, 2, Fraction(101, 100)):
            iron = plain_iron(numbers_five(0, 0, 0, d, 0), LEVEL)
            self.assertIsNone(round_shares(iron, LEVEL, CAPE))
            iron = plain_iron(numbers_five(0, 1, 1, d, 0), LEVEL)
            self.assertIsNone(round_shares(iron, LEVEL, CAPE))
        iron = plain_iron(numbers_five(0, 0, 0, Fraction(99, 100), 0), LEVEL)
        self.assertEqual(round_shares(iron, LEVEL, CAPE), (HERE, THERE))

    def test_any_irons_and_places(self):
        stream, told = Stream(6), []
        for _ in range(250):
            numbers = [stream.ratio(2, 3) / 2 for _ in range(12)]
            ends = self.check(rows_of(numbers), at_spot(stream.whole(1, 4), stream.whole(-4, 4)),
                              at_spot(stream.whole(1, 4), stream.whole(-4, 4)))
            told.append("none" if ends is None else "all" if ends == (HERE, THERE) else "some")
            back = [] if ends is None else ends
            self.assertTrue(all(is_surd(end) for end in back))
        self.assertGreater(min(told.count(each) for each in ("none", "all", "some")), 25)

    def test_the_way_back_is_the_same(self):
        stream = Stream(7)
        for _ in range(60):
            iron = rows_of([stream.ratio(2, 3) / 4 for _ in range(12)])
            place, other = stream.place(), stream.place()
            ends, back = round_shares(iron, place, other), round_shares(iron, other, place)
            if ends is None:
                self.assertIsNone(back)
                continue
            for (part, sign, square), (other_part, other_sign, other_square) in zip(ends, back[::-1]):
                self.assertEqual(number(part) + number(other_part), 1)
                self.assertEqual((sign, square), (-other_sign, other_square))


class Anywhere(unittest.TestCase):
    def test_no_deviation(self):
        clear = [Fraction(1, 9), 0, 0, 0, 0, Fraction(1, 9), 0, 0, 3, 4, Fraction(1, 2), Fraction(1, 3)]
        self.assertIs(has_none_anywhere(rows_of(clear)), True)
        self.assertIs(has_none_anywhere(rows_of([0] * 12)), True)
        self.assertIs(has_none_anywhere(POST), True)
        self.assertIs(has_none_anywhere(STEEL), False)
        for at in (0, 1, 2, 3, 4, 5, 6, 7):
            for size in (LITTLE, -LITTLE, 1):
                numbers = list(clear)
                numbers[at] += size
                self.assertIs(has_none_anywhere(rows_of(numbers)), False)
        for at in (8, 9, 10, 11):
            numbers = list(clear)
            numbers[at] += HUGE
            self.assertIs(has_none_anywhere(iron=rows_of(numbers)), True)
        # What takes itself away at one place does not at all of them.
        self.assertIs(has_none_anywhere(hard_iron(2, 0, -1)), False)

    def scaled(self, numbers, strength):
        """An iron of another strength with the same deviations everywhere, in Python's numbers."""
        a, b, c, fore, d, e, f, side = numbers[:8]
        share = strength / (1 + (a + e) / 2)
        split, both = (a - e) * share, 2 * (strength - 1)
        return [(both + split) / 2, b * share, c * share, fore * share, d * share, (both - split) / 2, f * share,
                side * share]

    def test_alike(self):
        ball = rows_of([1, 0, 0, 1, 0, 1, 0, 0, 0, 0, 0, 0])
        self.assertIs(are_alike_anywhere(STEEL, ball), True)
        stream = Stream(8)
        for _ in range(80):
            numbers = [stream.ratio(3, 4) / 2 for _ in range(12)]
            if 2 + numbers[0] + numbers[5] <= 0:
                continue
            iron = rows_of(numbers)
            other = self.scaled(numbers, Fraction(stream.whole(1, 9), 4)) + [stream.ratio() for _ in range(4)]
            self.assertIs(are_alike_anywhere(iron, rows_of(other)), True)
            self.assertIs(are_alike_anywhere(rows_of(other), iron), True)
            self.assertIs(are_alike_anywhere(iron, iron), True)
            for place in (PORT, CAPE, stream.place()):
                self.assertTrue(are_alike(five_of(iron, place), five_of(rows_of(other), place)))
            for at in range(8):
                changed = list(other)
                changed[at] += LITTLE
                self.assertIs(are_alike_anywhere(iron, rows_of(changed)), False)
            # b and d, and a and e, changed together: of A and E, or of D and the strength, one alone is another one.
            for first, second in ((1, 4), (0, 5)):
                for sign in (1, -1):
                    changed = list(other)
                    changed[first] += LITTLE
                    changed[second] += sign * LITTLE
                    told = (first, sign) == (0, 1) and not any(numbers[1:5] + numbers[6:8]) and numbers[0] == numbers[5]
                    self.assertIs(are_alike_anywhere(iron, rows_of(changed)), told)

    def test_alike_at_a_place_alone(self):
        # c and P do the same at this place, and stuck needles may be alike with unlike fives.
        self.assertEqual(five_of(hard_iron(2), at_spot(1, 2)), five_of(hard_iron(0, 0, 1), at_spot(1, 2)))
        self.assertIs(are_alike_anywhere(hard_iron(2), hard_iron(0, 0, 1)), False)
        first, second = [plain_iron(numbers_five(0, b, 0, 1, 0), LEVEL) for b in (3, 5)]
        self.assertTrue(are_alike(five_of(first, LEVEL), five_of(second, LEVEL)))
        self.assertIs(are_alike_anywhere(first, second), False)

    def test_no_deviation_is_alike_to_no_iron(self):
        stream = Stream(9)
        for _ in range(60):
            numbers = [stream.ratio(1, 2) * stream.whole(0, 1) * (stream.whole(0, 3) == 0) for _ in range(12)]
            numbers[5] = numbers[0] if stream.whole(0, 2) else numbers[5]
            if 2 + numbers[0] + numbers[5] > 0:
                iron = rows_of(numbers)
                self.assertIs(has_none_anywhere(iron), are_alike_anywhere(iron, rows_of([0] * 12)))


class SoftAndHard(unittest.TestCase):
    def test_by_hand(self):
        steep, half_steep = numbers_five(0, 1, 0, 0, 0), numbers_five(0, Fraction(1, 2), 0, 0, 0)
        told = (((1, 4), NIL), (HALF, NIL))
        self.assertEqual(soft_and_hard(steep, PORT, half_steep, ((1, 1), NIL)), told)
        # A, D and E are not looked at.
        self.assertEqual(soft_and_hard((ONE,) + steep[1:3] + (ONE, HALF), PORT, half_steep, ((1, 1), NIL)), told)

    def test_fives_of_one_iron(self):
        stream, many = Stream(10), 0
        while many < 120:
            iron, place, second = stream.iron(), stream.place(), stream.place()
            if place[1] == second[1]:
                with self.assertRaises(SameDip):
                    soft_and_hard(five_of(iron, place), place, five_of(iron, second), second)
                continue
            many += 1
            (a, _, c, fore), (_, e, f, side), _ = [[number(each) for each in row] for row in iron]
            strength = 1 + (a + e) / 2
            told = soft_and_hard(five_of(iron, place), place, five_of(iron, second), second)
            self.assertEqual(told, (
                (fraction(c / strength), fraction(f / strength)), (fraction(fore / strength), fraction(side / strength)),
            ))

    def test_equal_dip(self):
        five = numbers_five(0, 1, 0, 0, 0)
        for second in (PORT, CAPE, ((HUGE, 7), (2, 1))):
            with self.assertRaises(SameDip) as caught:
                soft_and_hard(five=five, place=PORT, other=five, second=second)
            self.assertEqual(vars(caught.exception), {})
        # Equal H and Z over H are let.
        self.assertEqual(soft_and_hard(five, PORT, five, ((1, 1), fraction(2 + LITTLE)))[0], (NIL, NIL))
        soft_and_hard(five, PORT, five, ((2, 1), (4, 1)))


class SeaArguments(Arguments, unittest.TestCase):
    MODULE = "ironships.seas"
    CALLS = (
        (spot_of, ("place",)), (place_between, ("place", "other", "fraction")), (sea_shares, ("sea", "place")),
        (parting_row, ("sea", "place")), (word_over, ("iron", "sea")),
        (is_within_over, ("iron", "sea", "low", "high")), (round_shares, ("iron", "place", "other")),
        (has_none_anywhere, ("iron",)),
    )
    RIGHT = {
        "place": PORT, "other": CAPE, "fraction": (1, 3), "sea": (PORT, CAPE), "iron": STEEL, "low": (-1, 2),
        "high": HALF,
    }
    ERRORS = {
        "place": InvalidPlace, "other": InvalidPlace, "fraction": InvalidFraction, "sea": InvalidSea,
        "iron": InvalidIron, "low": InvalidFraction, "high": InvalidFraction,
    }
    WRONG = {
        "place": [(NIL, ONE), ((-1, 2), ONE), [ONE, NIL], NOTHING, (ONE,)],
        "other": [(NIL, ONE), ((-1, 2), ONE), [ONE, NIL], NOTHING, STEEL],
        "fraction": [(-1, 2), (3, 2), (2, 4), 0, 1, [1, 2], (1, -2), STEER],
        "sea": [
            (), [PORT, CAPE], (PORT,) * 7, (PORT, PORT, STEER, (NIL, ONE)), (PORT, list(CAPE)), PORT,
            (PORT,) * 6 + (NIL,), (PORT, CAPE, (NIL, NIL), None, CAPE, PORT, PORT), (PORT,) * 8, (CAPE, ()),
        ],
        "iron": [(NOTHING,) * 2, [NOTHING] * 3, rows_of([-2] + [0] * 11), (NOTHING, list(NOTHING), NOTHING), LEVEL],
        "low": [[1, 2], 0, 1, (2, 4), (1, -2)],
        "high": [[1, 2], 0, 1, (2, 4), (1, -2)],
    }
    INDEXES = {"sea": index_by(is_place, 6)}

    def test_the_index_of_a_wrong_mark(self):
        for sea, index in (
            ((), None), ([PORT], None), (None, None), ((NIL,), 0), ((PORT, None), 1), ((PORT,) * 7, 6),
            ((PORT,) * 5 + (None, PORT, PORT), 5), ((PORT,) * 6 + (None,), 6), ((None,) * 7, 0),
        ):
            refused(self, word_over, {"iron": STEEL, "sea": sea}, InvalidSea, index, "index")

    def test_bounds_the_wrong_way_round(self):
        told = {"iron": STEEL, "sea": (PORT,), "low": ONE, "high": HALF}
        refused(self, is_within_over, told, HighBelowLow, HALF)
        told.update(high=(2, 4))
        refused(self, is_within_over, told, InvalidFraction, told["high"])
        told.update(sea=(), high=HALF)
        refused(self, is_within_over, told, InvalidSea, None, "index")
        self.assertIs(is_within_over(STEEL, (PORT,), HALF, HALF), False)


class AlikeArguments(Arguments, unittest.TestCase):
    MODULE = "ironships.seas"
    CALLS = ((are_alike_anywhere, ("iron", "other")),)
    RIGHT = {"iron": STEEL, "other": POST}
    ERRORS = {"iron": InvalidIron, "other": InvalidIron}
    WRONG = {"iron": SeaArguments.WRONG["iron"], "other": SeaArguments.WRONG["iron"] + [PORT, NORTH]}


class TellingArguments(Arguments, unittest.TestCase):
    MODULE = "ironships.seas"
    CALLS = ((soft_and_hard, ("five", "place", "other", "second")),)
    RIGHT = {"five": (NIL,) * 5, "place": PORT, "other": (ONE,) * 5, "second": LEVEL}
    ERRORS = {"five": InvalidFive, "place": InvalidPlace, "other": InvalidFive, "second": InvalidPlace}
    WRONG = {
        "five": [[NIL] * 5, (NIL,) * 4, (NIL,) * 6, (NIL, NIL, NIL, NIL, (2, 2)), (0,) * 5, NORTH],
        "place": SeaArguments.WRONG["place"],
        "other": [[NIL] * 5, (NIL,) * 4, (NIL, NIL, (1, -1), NIL, NIL), PORT, STEER],
        "second": [(NIL, ONE), ((-1, 2), ONE), [ONE, NIL], NOTHING, EAST[:1]],
    }

    def test_equal_dip_comes_last(self):
        told = {"five": (NIL,) * 5, "place": PORT, "other": (ONE,) * 4, "second": PORT}
        refused(self, soft_and_hard, told, InvalidFive, told["other"])


class WithoutDeviation(unittest.TestCase):
    def test_none_anywhere_is_none_at_any_heading(self):
        piece = rows_of([0, 0, 0, 0, 0, 0, 0, 0, 1, 2, 3, 4])
        iron = joined(rows_of([Fraction(1, 3), 0, 0, 0, 0, Fraction(1, 3)] + [0] * 6), piece)
        self.assertIs(has_none_anywhere(iron), True)
        stream = Stream(11)
        for _ in range(20):
            self.assertEqual(tangent_at(five_of(iron, stream.place()), stream.heading()), NIL)


if __name__ == "__main__":
    unittest.main()

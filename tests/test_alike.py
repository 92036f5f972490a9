"""Points [27] and [28] and the interface of alike.py, with what points [3], [4] and [5] say of its arguments."""

import unittest
from fractions import Fraction

from arguments import Arguments
from ironships.alike import agreeing_many, are_alike, parting_heading
from ironships.bounds import zero_words
from ironships.errors import InvalidFive
from ironships.headings import is_heading
from ironships.pairs import facing_waves, size_polynomials
from ironships.polynomials import sign_at
from samples import (
    EAST, HALF, HUGE, NIL, NORTH, ONE, SOUTH, STEER, WEST, Stream, dead_five, five_of, force_at, fraction,
    heading_of_half, lined_five, number, sign, wave_worth,
)

NOUGHTS = (NIL,) * 5
LITTLE = Fraction(1, HUGE)
TAME, BRINK, WILD = five_of(0, Fraction(1, 2), 0, 0, 0), five_of(0, 1, 0, 0, 0), five_of(0, 2, 0, 0, 0)
# The force is (B + 2 cos h) (cos h, sin h): along the ship's head, or against it.
FORWARD = {b: five_of(0, b, 0, 1, 0) for b in (1, 2, 3, 5, -3, -2, 0)}


def lined_fives():
    for a in (0, 1, Fraction(-3, 4)):
        for turn in (NORTH, STEER, WEST):
            for share in (0, Fraction(1, 2), -1, Fraction(5, 4), 3, -7):
                yield lined_five(a, turn, share)
    for c in (0, 1, 2, -2, 5, -5):
        yield five_of(0, 0, c, -1, 0)


def samples():
    stream = Stream(81)
    for at in range(25):
        yield stream.five(4, 3, 1 + at % 3)
    for heading in (NORTH, SOUTH, STEER):
        yield dead_five(stream.ratio(), stream.ratio(), stream.ratio(), heading)
    for five in (NOUGHTS, TAME, BRINK, WILD):
        yield five


def alike_by_27(five, other):
    """Whether they are alike, by what [27] says they exactly are."""
    if five == other:
        return True
    for each in (five, other):
        a, b, c, d, e = [number(one) for one in each]
        w, t1, t2 = 1 + a * a - d * d - e * e, b + a * c - d * b - e * c, c - a * b - e * b + d * c
        if (w, t1, t2) != (0, 0, 0) or b * b + c * c < 4 * (1 + a * a):
            return False
    b, c = [number(each) for each in five[1:3]]
    k, m = [number(each) for each in other[1:3]]
    return b * m == c * k and b * k + c * m > 0


def turned_force(five, other, heading):
    """K K' + L L' and K L' - L K'."""
    (k, m), (n, o) = force_at(five, heading), force_at(other, heading)
    return k * n + m * o, k * o - m * n


class Facing(unittest.TestCase):
    def test_the_waves_tell_how_the_forces_lie_to_each_other(self):
        fives, stream = list(samples()), Stream(82)
        for five, other in zip(fives, fives[3:] + fives[:3]):
            waves = facing_waves(five, other)
            for heading in (NORTH, EAST, SOUTH, WEST, stream.heading(), stream.heading()):
                self.assertEqual(tuple(wave_worth(wave, heading) for wave in waves), turned_force(five, other, heading))

    def test_the_polynomials_of_sizes(self):
        fives = list(samples())
        for five, other in zip(fives, fives[3:] + fives[:3]):
            polynomials = size_polynomials(five, other)
            for quarter, (c, s) in enumerate(((1, 0), (0, 1), (-1, 0), (0, -1))):
                for half in (0, Fraction(1, 3), Fraction(4, 5)):
                    p, q = [number(each) for each in heading_of_half(half)]
                    heading = (fraction(c * p - s * q), fraction(s * p + c * q))
                    (k, m), (n, o) = force_at(five, heading), force_at(other, heading)
                    told = sign((k * o) ** 2 - (m * n) ** 2)
                    self.assertEqual(sign_at(polynomials[quarter], fraction(half)), told)


class Alike(unittest.TestCase):
    def check(self, five, other):
        told = are_alike(five, other)
        self.assertIs(told, alike_by_27(five, other))
        self.assertIs(are_alike(other, five), told)
        heading = parting_heading(five, other)
        if told:
            self.assertIsNone(heading)
            self.assertEqual(agreeing_many(five, other), "all")
        else:
            self.assertTrue(is_heading(heading))
            along, across = turned_force(five, other, heading)
            # Both have force there, since one of the two is not 0, and not the same direction.
            self.assertTrue(across != 0 or along < 0)
            self.assertIn(agreeing_many(five, other), (0, 1, 2, 3, 4, "endless"))
        self.assertEqual(agreeing_many(five, other), agreeing_many(other, five))
        return told

    def test_each_beside_each(self):
        fives = list(samples())
        for five in fives:
            for other in fives[::4]:
                self.check(five, other)
            self.assertTrue(self.check(five, tuple(list(five))))

    def test_force_along_one_line_of_the_ship(self):
        fives = list(lined_fives())
        many = sum(1 for five in fives for other in fives if self.check(five, other) and five != other)
        self.assertGreater(many, 20)
        for five in fives:
            self.assertFalse(self.check(five, TAME))

    def test_alike_but_not_equal(self):
        told = {(b, k): self.check(FORWARD[b], FORWARD[k]) for b in FORWARD for k in FORWARD}
        alike_pairs = [pair for pair in told if told[pair] and pair[0] < pair[1]]
        self.assertEqual(alike_pairs, [(2, 3), (2, 5), (3, 5), (-3, -2)])

    def test_other_numbers_may_go_with_the_same_direction(self):
        # The force is B + 2 cos h + 2 A sin h to the ship's head: without a turn if B B is 4 (1 + A A) or more.
        edge = (Fraction(3, 4), Fraction(5, 2), True)
        for a, b, told in ((1, 5, True), (-1, 3, True), (1, 2, False), (1, -5, False), edge):
            self.assertIs(self.check(FORWARD[3], five_of(a, b, 0, 1, -a)), told)
        self.assertTrue(self.check(five_of(1, 5, 0, 1, -1), five_of(-2, 5, 0, 1, 2)))
        self.assertFalse(self.check(five_of(1, 5, 0, 1, -1), five_of(1, 5, 0, 1, 1)))
        self.assertTrue(self.check(*[lined_five(Fraction(-3, 4), STEER, share) for share in (9, 4)]))

    def test_hardly_unlike(self):
        for at in range(5):
            five = five_of(*[Fraction(1, 3) + (LITTLE if place == at else 0) for place in range(5)])
            self.assertFalse(self.check(five, five_of(*[Fraction(1, 3)] * 5)))
        self.assertFalse(self.check(FORWARD[3], five_of(0, 3, LITTLE, 1, 0)))
        self.assertFalse(self.check(FORWARD[3], five_of(0, 2 - LITTLE, 0, 1, 0)))
        self.assertTrue(self.check(FORWARD[3], five_of(0, 2 + LITTLE, 0, 1, 0)))

    def test_the_same_angle_and_not_the_same_tangent_alone(self):
        self.assertFalse(self.check(FORWARD[3], FORWARD[-3]))
        self.assertFalse(self.check(FORWARD[0], FORWARD[3]))

    def test_by_name(self):
        self.assertIs(are_alike(other=TAME, five=TAME), True)
        self.assertIsNone(parting_heading(other=FORWARD[2], five=FORWARD[5]))
        self.assertEqual(agreeing_many(other=WILD, five=TAME), 1)


class Agreeing(unittest.TestCase):
    def test_all_endless_or_none(self):
        self.assertEqual(agreeing_many(TAME, TAME), "all")
        self.assertEqual(agreeing_many(BRINK, BRINK), "all")
        self.assertEqual(agreeing_many(FORWARD[0], FORWARD[0]), "all")
        self.assertEqual(agreeing_many(FORWARD[2], FORWARD[5]), "all")
        for b, k in ((1, 3), (1, 2), (0, 3), (-3, 1), (0, 1), (1, 0), (-2, 0)):
            self.assertEqual(agreeing_many(FORWARD[b], FORWARD[k]), "endless")
        for b, k in ((-3, 3), (-2, 2), (5, -3), (-2, 5)):
            self.assertEqual(agreeing_many(FORWARD[b], FORWARD[k]), 0)

    def test_by_hand(self):
        # K L' - L K' is (B' - B) sin h: at north both agree; at south they do so if both or none is above 1.
        for b, k, many in ((Fraction(1, 2), 2, 1), (Fraction(1, 2), Fraction(1, 4), 2), (2, 3, 2), (1, 2, 1),
                           (Fraction(1, 2), 1, 1), (-2, 2, 0), (-1, 1, 0), (-2, Fraction(1, 2), 1)):
            self.assertEqual(agreeing_many(five_of(0, b, 0, 0, 0), five_of(0, k, 0, 0, 0)), many)
        self.assertEqual(agreeing_many(five_of(1, 0, 0, 0, 0), five_of(2, 0, 0, 0, 0)), 0)
        self.assertEqual(agreeing_many(TAME, five_of(0, 0, 0, Fraction(1, 4), 0)), 4)

    def test_beside_a_five_of_noughts_they_agree_where_the_needle_is_plain(self):
        for five in list(samples()) + list(lined_fives()):
            if five != NOUGHTS:
                self.assertEqual(agreeing_many(five, NOUGHTS), zero_words(five).count("plain"))

    def test_dead_headings_do_not_count(self):
        # Both are 0 in the east at 120 and 240 degrees, the one being dead there.
        self.assertEqual(agreeing_many(FORWARD[1], NOUGHTS), 2)
        self.assertEqual(agreeing_many(FORWARD[0], NOUGHTS), 2)
        self.assertEqual(agreeing_many(BRINK, TAME), 1)

    def test_headings_at_which_they_are_made_to_agree(self):
        stream = Stream(83)
        seen = set()
        for _ in range(120):
            five = stream.five(3, 3, 2)
            headings = [stream.heading() for _ in range(stream.whole(1, 4))]
            if len(set(headings)) < len(headings):
                continue
            other = meeting_five(five, headings, stream)
            if other is None or other == five:
                continue
            met = sum(1 for heading in headings if turned_force(five, other, heading)[0] > 0)
            told = agreeing_many(five, other)
            if told in ("all", "endless"):
                continue
            for heading in headings:
                self.assertEqual(turned_force(five, other, heading)[1], 0)
            self.assertGreaterEqual(told, met)
            if len(headings) == 4:
                self.assertEqual(told, met)
                seen.add(told)
        self.assertGreaterEqual(seen, {2, 3, 4})


def meeting_five(five, headings, stream):
    """A five whose force is along that of a five at the headings; None if none was found."""
    rows = []
    for heading in headings:
        k, m = force_at(five, heading)
        # K L' - L K' is straight in the other five's numbers; these are what each adds, and what stays.
        parts = [force_at(five_of(*[int(at == place) for at in range(5)]), heading) for place in range(5)]
        rows.append([k * east - m * (north - 1) for north, east in parts] + [m])
    for _ in range(5 - len(rows)):
        rows.append([stream.ratio(2, 2) for _ in range(6)])
    return solved(rows)


def solved(rows):
    """The five with these sums, five rows of five factors and a sum; None if it is not the only one."""
    rows = [list(row) for row in rows]
    for at in range(5):
        pivot = next((row for row in rows[at:] if row[at] != 0), None)
        if pivot is None:
            return None
        rows.remove(pivot)
        rows = [
            [each - other * row[at] / pivot[at] for each, other in zip(row, pivot)] for row in rows]
        rows.insert(at, [each / pivot[at] for each in pivot])
    return five_of(*[row[5] for row in rows])


class AlikeArguments(Arguments, unittest.TestCase):
    MODULE = "ironships.alike"
    CALLS = tuple((call, ("five", "other")) for call in (are_alike, parting_heading, agreeing_many))
    RIGHT = {"five": TAME, "other": (ONE, HALF, NIL, NIL, (-1, 3))}
    ERRORS = {"five": InvalidFive, "other": InvalidFive}
    WRONG = {
        "five": [[NIL] * 5, (NIL,) * 4, (NIL,) * 6, (NIL, NIL, NIL, NIL, (2, 2)), (0,) * 5, NORTH],
        "other": [[NIL] * 5, (NIL,) * 4, (NIL, NIL, (1, -1), NIL, NIL), ONE, STEER],
    }


if __name__ == "__main__":
    unittest.main()

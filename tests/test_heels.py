"""Points [29] to [32] and the interface of heels.py, with what points [3], [4] and [5] say of its arguments."""

import unittest
from fractions import Fraction
from itertools import combinations_with_replacement

from arguments import Arguments, refused
from ironships.errors import (
    HighBelowLow, InvalidFraction, InvalidHeading, InvalidIron, InvalidPlace, TooMuchIron,
)
from ironships.heels import heel_rate, heel_waves, heeled, is_still, is_within_heels, righting_magnet
from ironships.irons import is_iron
from ironships.waves import is_wave
from samples import (
    EAST, HALF, HUGE, LEVEL, NIL, NORTH, NOTHING, ONE, POST, SOUTH, STEER, WEST, Stream, fraction,
    heading_of_half, number, rows_of,
)

MAST = (NOTHING, NOTHING, (NIL, NIL, NIL, (2, 1)))
NIL_WAVE = (NIL,) * 5
TOP = ((-99, 1), (99, 1))


def numbers_of(iron):
    return [[number(each) for each in row] for row in iron]


def angle_of(half):
    """Cosine and sine of the angle with this half tangent."""
    cosine, sine = heading_of_half(half)
    return number(cosine), number(sine)


def field_at(iron, place, heading, half):
    """North and east part at the compass of the heeled ship, straight from the field that her deck sees."""
    rows = numbers_of(iron)
    force, down = [number(each) for each in place]
    c, s = [number(each) for each in heading]
    p, q = angle_of(half)
    ahead, aside = force * c, -force * s
    deck = (ahead, p * aside + q * down, p * down - q * aside)
    seen = [deck[at] + sum(row[k] * deck[k] for k in range(3)) + row[3] for at, row in enumerate(rows)]
    fore, level = seen[0], p * seen[1] - q * seen[2]
    return c * fore - s * level, s * fore + c * level


def worth(wave, half):
    p, q = angle_of(half)
    k = [number(each) for each in wave]
    return k[0] + k[1] * p + k[2] * q + k[3] * (p * p - q * q) + k[4] * 2 * p * q


def wave_of_polynomial(numbers):
    """The wave that (1 + u u) (1 + u u) makes this polynomial of degree 4 at most in the half u."""
    g = [Fraction(each) for each in numbers] + [Fraction(0)] * (5 - len(numbers))
    k3 = (g[0] + g[4] - g[2]) / 8
    return [(g[0] + g[4]) / 2 - k3, (g[0] - g[4]) / 2, (g[1] + g[3]) / 4, k3, (g[1] - g[3]) / 8]


def iron_with_east(wave):
    """An iron that has, at north and the place (1, 1), the north part 1 and this wave as its east part."""
    k0, k1, k2, k3, k4 = wave
    return rows_of([0, 0, 0, 0, 0, 0, k0 + k3, k1, 0, k3 - k0, -2 * k4, -k2])


def iron_with_north(wave):
    """An iron that has, at east and the place (1, 0), this wave as its north part and the east part 0."""
    k0, k1, k2, k3, k4 = wave
    e = k0 - 1 + k3
    return rows_of([abs(e), 0, 0, 0, 0, e, -2 * k4, -k1, 0, 0, k0 - 1 - k3, k2])


FLAT = ((1, 1), (0, 1))
STEEP = ((1, 1), (1, 1))


class Examples(unittest.TestCase):
    def test_the_examples_of_the_interface(self):
        self.assertEqual(heeled(POST, HALF), (NOTHING, (NIL, NIL, NIL, (-4, 5)), (NIL, NIL, NIL, (3, 5))))
        self.assertEqual(
            heel_waves(POST, LEVEL, NORTH),
            (((1, 1), (0, 1), (0, 1), (0, 1), (0, 1)), ((0, 1), (0, 1), (-1, 1), (0, 1), (0, 1))),
        )
        self.assertEqual(
            [
                is_still(POST, LEVEL, NORTH, HALF), is_still(POST, LEVEL, EAST, HALF),
                is_still(MAST, LEVEL, EAST, HALF), is_within_heels(POST, LEVEL, NORTH, HALF, (-4, 5), (4, 5)),
                is_within_heels(POST, LEVEL, NORTH, HALF, (-4, 5), (3, 4)),
            ],
            [False, True, False, True, False],
        )
        self.assertEqual(
            [
                heel_rate(POST, LEVEL, NORTH), heel_rate(POST, LEVEL, EAST), righting_magnet(POST, LEVEL, NORTH),
                righting_magnet(POST, LEVEL, EAST),
            ],
            [(-1, 1), (0, 1), (0, 1), None],
        )


class Heeling(unittest.TestCase):
    def test_by_hand(self):
        iron = rows_of([1, 5, 10, 7, 2, 15, 20, 8, 3, 25, 30, 9])
        # p = 3 / 5, q = 4 / 5: first the columns (-5, 10), (-7, 24), (-9, 38), then the lower rows.
        told = rows_of([1, -5, 10, 7, Fraction(-6, 5), 3, -16, Fraction(-12, 5), Fraction(17, 5), -11, 42, Fraction(59, 5)])
        self.assertEqual(heeled(iron, HALF), told)

    def test_an_upright_ship(self):
        stream = Stream(1)
        for _ in range(20):
            iron = stream.iron()
            self.assertEqual(heeled(iron, NIL), iron)

    def test_heeled_back_it_is_itself_again(self):
        stream = Stream(2)
        done = 0
        while done < 200:
            iron, half = stream.iron(), fraction(Fraction(stream.whole(-9, 9), 10))
            try:
                other = heeled(iron, half)
            except TooMuchIron:
                continue
            self.assertTrue(is_iron(other))
            self.assertEqual(heeled(other, fraction(-number(half))), iron)
            done += 1

    def test_heeled_twice_it_is_as_by_both_angles(self):
        stream = Stream(3)
        done = 0
        while done < 200:
            iron = stream.iron()
            first, second = Fraction(stream.whole(-4, 4), 10), Fraction(stream.whole(-4, 4), 10)
            both = (first + second) / (1 - first * second)
            try:
                other = heeled(heeled(iron, fraction(first)), fraction(second))
            except TooMuchIron:
                continue
            self.assertEqual(heeled(iron, fraction(both)), other)
            done += 1

    def test_what_the_iron_does_heeled_the_other_one_does_upright(self):
        stream = Stream(4)
        for _ in range(200):
            iron, place, heading = stream.iron(), stream.place(), stream.heading()
            half = Fraction(stream.whole(-9, 9), 10)
            try:
                other = heeled(iron, fraction(half))
            except TooMuchIron:
                continue
            self.assertEqual(field_at(other, place, heading, 0), field_at(iron, place, heading, half))

    def test_strength_that_is_lost_by_heeling(self):
        iron = rows_of([-1, 0, 0, 0, 0, 0, 0, 0, 0, 0, -3, 0])
        # e grows to p p e + q q k = - 48 / 25; at the half 1 / 2 2 + a + e is 1 - 48 / 25.
        with self.assertRaises(TooMuchIron):
            heeled(iron, HALF)
        with self.assertRaises(TooMuchIron):
            heeled(iron=iron, half=(-1, 2))
        # With q q = 1 / 3 it would be 0; beside this root there is some strength, or none.
        self.assertTrue(is_iron(heeled(iron, (1, 4))))
        edge = rows_of([-1, 0, 0, 0, 0, 0, 0, 0, 0, 0, Fraction(-25, 16), 0])
        with self.assertRaises(TooMuchIron):
            heeled(edge, HALF)
        self.assertEqual(heeled(edge, (499, 1000))[0], edge[0])
        tilted = rows_of([-1, 0, 0, 0, 0, 0, 2, 0, 0, 1, 0, 0])
        # e turns to - p q (f + j): lost to starboard alone.
        with self.assertRaises(TooMuchIron):
            heeled(tilted, HALF)
        self.assertEqual(heeled(tilted, (-1, 2))[1][1], (36, 25))

    def test_halves_up_to_a_quarter_turn(self):
        for half in ((99, 100), (-99, 100), (HUGE - 1, HUGE), (1 - HUGE, HUGE), NIL):
            self.assertTrue(is_iron(heeled(POST, half)))
        for half in (ONE, (-1, 1), (2, 1), (-3, 2), (HUGE, HUGE - 1), (HUGE, 1), (-HUGE, 1)):
            with self.assertRaises(InvalidFraction) as caught:
                heeled(POST, half)
            self.assertIs(caught.exception.given, half)


class Waves(unittest.TestCase):
    def test_they_tell_the_field_at_each_heel(self):
        stream = Stream(5)
        for _ in range(150):
            iron, place, heading = stream.iron(), stream.place(), stream.heading()
            waves = heel_waves(iron, place, heading)
            self.assertIs(type(waves), tuple)
            self.assertTrue(is_wave(waves[0]) and is_wave(waves[1]))
            for half in (0, Fraction(1, 2), Fraction(-1, 3), Fraction(7, 8), Fraction(-99, 100), Fraction(3, 7)):
                told = (worth(waves[0], half), worth(waves[1], half))
                self.assertEqual(told, field_at(iron, place, heading, half))

    def test_headings_on_the_axes(self):
        iron, place = rows_of(range(1, 13)), ((2, 1), (3, 1))
        for heading in (NORTH, EAST, SOUTH, WEST):
            waves = heel_waves(iron, place, heading)
            for half in (0, Fraction(1, 2), Fraction(-1, 2), Fraction(1, 3), Fraction(-2, 3)):
                told = (worth(waves[0], half), worth(waves[1], half))
                self.assertEqual(told, field_at(iron, place, heading, half))

    def test_they_are_not_over_the_strength(self):
        ball = rows_of([1, 0, 0, 0, 0, 1, 0, 0, 0, 0, 0, 0])
        self.assertEqual(heel_waves(ball, ((3, 1), NIL), NORTH)[0], ((6, 1), NIL, NIL, NIL, NIL))

    def test_numbers_of_any_size(self):
        iron = rows_of([Fraction(HUGE + at, HUGE - at) for at in range(12)])
        place, heading = ((HUGE, HUGE + 2), (-1, HUGE)), heading_of_half(Fraction(HUGE, 3))
        half = Fraction(HUGE, 2 * HUGE + 1)
        waves = heel_waves(iron, place, heading)
        self.assertEqual((worth(waves[0], half), worth(waves[1], half)), field_at(iron, place, heading, half))
        other = heeled(iron, fraction(half))
        self.assertEqual(heeled(other, fraction(-half)), iron)
        self.assertEqual(heel_waves(other, place, heading)[0], heel_waves(other, place, heading)[0])
        rate = heel_rate(iron, place, heading)
        self.assertEqual(rate, rate_of(waves))
        magnet = righting_magnet(iron, place, heading)
        self.assertEqual(heel_rate(with_last(iron, magnet), place, heading), NIL)
        self.assertIs(is_within_heels(iron, place, heading, fraction(half), (-HUGE, 1), (HUGE, 1)), sampled(
            iron, place, heading, half, -HUGE, HUGE))


def sampled(iron, place, heading, half, low, high):
    """Whether all is well at some heels of the stretch."""
    for at in range(-40, 41):
        north, east = field_at(iron, place, heading, half * at / 40)
        if north <= 0 or not low * north <= east <= high * north:
            return False
    return True


class WithinHeels(unittest.TestCase):
    # Factors of degree 1 and 2 with the roots they have, told by their squares and signs.
    FACTORS = {
        (0, 1): [0], (-1, 2): [Fraction(1, 4)], (-1, 0, 2): [Fraction(1, 2), Fraction(-1, 2)],
        (-1, 0, 3): [Fraction(1, 3), Fraction(-1, 3)], (1, 1, 1): [],
    }
    HALVES = ((1, 4), (1, 2), (577, 1000), (289, 500), (707, 1000), (177, 250))

    def polynomials(self):
        for many in range(5):
            for factors in combinations_with_replacement(list(self.FACTORS), many):
                numbers = [Fraction(1)]
                for factor in factors:
                    made = [Fraction(0)] * (len(numbers) + len(factor) - 1)
                    for at, each in enumerate(numbers):
                        for other, more in enumerate(factor):
                            made[at + other] += each * more
                    numbers = made
                if len(numbers) <= 5:
                    yield numbers, [root for factor in factors for root in self.FACTORS[factor]]

    def test_the_polynomials_come_back(self):
        for numbers, _ in self.polynomials():
            wave = wave_of_polynomial(numbers)
            east = heel_waves(iron_with_east(wave), STEEP, NORTH)
            self.assertEqual(east, ((ONE, NIL, NIL, NIL, NIL), tuple(fraction(each) for each in wave)))
            north = heel_waves(iron_with_north(wave), FLAT, EAST)
            self.assertEqual(north, (tuple(fraction(each) for each in wave), NIL_WAVE))

    def test_bounds_that_are_touched_or_broken_at_heels_told_by_fractions_or_not(self):
        for numbers, roots in self.polynomials():
            for sign in (1, -1):
                signed = [sign * each for each in numbers]
                wave = wave_of_polynomial(signed)
                iron = iron_with_east(wave)
                # A sample so near to 0 that no root lies between, and 0 itself is left out.
                start = sum(each * Fraction(1, 1000) ** at for at, each in enumerate(signed))
                for half in self.HALVES:
                    inside = [root for root in roots if abs(root) < number(half) ** 2]
                    turns = any(inside.count(root) % 2 == 1 for root in inside)
                    with self.subTest(numbers=signed, half=half):
                        well = not turns and start > 0
                        self.assertIs(is_within_heels(iron, STEEP, NORTH, half, NIL, TOP[1]), well)
                        well = not turns and start < 0
                        self.assertIs(is_within_heels(iron, STEEP, NORTH, half, TOP[0], NIL), well)
                        self.assertIs(is_within_heels(iron, STEEP, NORTH, half, TOP[0], TOP[1]), True)

    def test_a_north_part_that_is_touched_or_broken_anywhere(self):
        for numbers, roots in self.polynomials():
            for sign in (1, -1):
                signed = [sign * each for each in numbers]
                iron = iron_with_north(wave_of_polynomial(signed))
                start = sum(each * Fraction(1, 1000) ** at for at, each in enumerate(signed))
                for half in self.HALVES:
                    held = [root for root in roots if abs(root) <= number(half) ** 2]
                    with self.subTest(numbers=signed, half=half):
                        well = not held and start > 0
                        self.assertIs(is_within_heels(iron, FLAT, EAST, half, NIL, NIL), well)
                        self.assertIs(is_within_heels(iron, FLAT, EAST, half, TOP[0], TOP[1]), well)
                        self.assertIs(is_still(iron, FLAT, EAST, half), well)

    def test_a_bound_is_met_at_the_end_of_the_stretch(self):
        # The tangent is - q: at the half u it is from - 2 u / (1 + u u) up to as much.
        self.assertIs(is_within_heels(POST, LEVEL, NORTH, (1, 3), (-3, 5), (3, 5)), True)
        self.assertIs(is_within_heels(POST, LEVEL, NORTH, (1, 3), (-3, 5), (599999, 10 ** 6)), False)
        self.assertIs(is_within_heels(POST, LEVEL, NORTH, (1, 3), (-599999, 10 ** 6), (3, 5)), False)
        self.assertIs(is_within_heels(POST, LEVEL, NORTH, (333, 1000), (-3, 5), (3, 5)), True)
        self.assertIs(is_within_heels(POST, LEVEL, NORTH, (167, 500), (-3, 5), (3, 5)), False)

    def test_a_bound_that_is_broken_between_two_close_heels_without_fractions(self):
        close = 10 ** 60
        # (2 u u - 1) squared, less a little; it is below 0 just beside two roots that are no fractions.
        for shift, well in ((Fraction(0), True), (Fraction(1, close), True), (Fraction(-1, close), False)):
            iron = iron_with_east(wave_of_polynomial([1 + shift, 0, -4, 0, 4]))
            self.assertIs(is_within_heels(iron, STEEP, NORTH, (3, 4), NIL, TOP[1]), well)
            self.assertIs(is_within_heels(iron, STEEP, NORTH, (7, 10), NIL, TOP[1]), True)
            ahead = iron_with_north(wave_of_polynomial([1 + shift, 0, -4, 0, 4]))
            self.assertIs(is_within_heels(ahead, FLAT, EAST, (3, 4), NIL, NIL), well and shift > 0)
            self.assertIs(is_still(ahead, FLAT, EAST, (3, 4)), well and shift > 0)
            self.assertIs(is_still(ahead, FLAT, EAST, (7, 10)), True)

    def test_both_bounds_at_once(self):
        self.assertIs(is_within_heels((NOTHING,) * 3, LEVEL, NORTH, (9, 10), NIL, NIL), True)
        self.assertIs(is_within_heels((NOTHING,) * 3, LEVEL, NORTH, (9, 10), (1, HUGE), ONE), False)
        # With d alone the tangent is p / 3: from 1 / 5 up to 1 / 3 at the halves up to 1 / 2.
        third = (rows_of([0] * 4 + [Fraction(1, 3)] + [0] * 7), LEVEL, NORTH)
        self.assertIs(is_within_heels(*third, HALF, (1, 5), (1, 3)), True)
        self.assertIs(is_within_heels(*third, HALF, (201, 1000), (1, 3)), False)
        self.assertIs(is_within_heels(*third, HALF, (1, 5), (333, 1000)), False)
        self.assertIs(is_within_heels(*third, HALF, (1, 3), (1, 3)), False)
        self.assertIs(is_within_heels(*third, (1, 3), (4, 15), (1, 3)), True)

    def test_it_agrees_with_samples(self):
        stream = Stream(6)
        told = {True: 0, False: 0}
        for _ in range(400):
            small = [stream.ratio(3, 9) / 6 for _ in range(12)]
            iron, place, heading = rows_of(small), stream.place(), stream.heading()
            half = Fraction(stream.whole(1, 9), 10)
            low, high = Fraction(-stream.whole(1, 9), 5), Fraction(stream.whole(1, 9), 5)
            answer = is_within_heels(iron, place, heading, fraction(half), fraction(low), fraction(high))
            self.assertIs(answer, sampled(iron, place, heading, half, low, high))
            told[answer] += 1
        self.assertGreater(min(told.values()), 50)


class Still(unittest.TestCase):
    def test_no_iron_at_all(self):
        bare = (NOTHING,) * 3
        for heading in (NORTH, SOUTH, EAST, WEST, STEER):
            self.assertIs(is_still(bare, ((1, 2), (7, 3)), heading, (99, 100)), True)

    def test_a_small_east_part_is_enough(self):
        for at in range(12):
            numbers = [0] * 12
            numbers[at] = Fraction(1, HUGE)
            waves = heel_waves(rows_of(numbers), ((1, 2), (7, 3)), STEER)
            self.assertIs(is_still(rows_of(numbers), ((1, 2), (7, 3)), STEER, (1, 9)), waves[1] == NIL_WAVE)

    def test_a_north_part_of_nought_or_below(self):
        # North is 1 + P at each heel, east is 0.
        for hard, well in ((Fraction(-1, 2), True), (-1, False), (-2, False)):
            iron = rows_of([0, 0, 0, hard] + [0] * 8)
            self.assertIs(is_still(iron, LEVEL, NORTH, HALF), well)
            self.assertIs(is_within_heels(iron, LEVEL, NORTH, HALF, NIL, NIL), well)

    def test_the_end_is_counted_in(self):
        # At east the mast's north part is 1 + 2 q: 0 at the half with q = - 1 / 2, which is no fraction.
        self.assertIs(is_still(MAST, LEVEL, EAST, (13, 50)), True)
        self.assertIs(is_still(MAST, LEVEL, EAST, (27, 100)), False)
        # With 5 / 3 in place of 2 it is 0 at the half - 1 / 3.
        pole = rows_of([0] * 11 + [Fraction(5, 3)])
        self.assertIs(is_still(pole, LEVEL, EAST, (1, 3)), False)
        self.assertIs(is_still(pole, LEVEL, EAST, (333333, 10 ** 6)), True)
        self.assertIs(is_still(pole, LEVEL, WEST, (1, 3)), False)


def rate_of(waves):
    """The heel rate as [32] tells it, None for no north part."""
    n, e = [[number(each) for each in wave] for wave in waves]
    north, east = n[0] + n[1] + n[3], e[0] + e[1] + e[3]
    if north == 0:
        return None
    return fraction((north * (e[2] + 2 * e[4]) - east * (n[2] + 2 * n[4])) / (north * north))


def with_last(iron, last):
    return iron[:2] + (iron[2][:3] + (last,),)


class Rates(unittest.TestCase):
    def test_rates(self):
        stream = Stream(7)
        for _ in range(300):
            iron, place, heading = stream.iron(), stream.place(), stream.heading()
            self.assertEqual(heel_rate(iron, place, heading), rate_of(heel_waves(iron, place, heading)))

    def test_they_are_near_what_a_small_heel_does(self):
        stream = Stream(8)
        tiny = Fraction(1, 10 ** 12)
        for _ in range(50):
            iron, place, heading = stream.iron(), stream.place(), stream.heading()
            rate = heel_rate(iron, place, heading)
            if rate is None:
                continue
            north, east = field_at(iron, place, heading, tiny)
            upright_north, upright_east = field_at(iron, place, heading, 0)
            # The angle is near to twice the half.
            grown = (east / north - upright_east / upright_north) / (2 * tiny)
            self.assertLess(abs(grown - number(rate)), Fraction(1, 1000))

    def test_a_north_part_of_nought(self):
        iron = rows_of([0, 0, 0, -1] + [0] * 7 + [5])
        self.assertIsNone(heel_rate(iron, LEVEL, NORTH))
        self.assertIsNone(righting_magnet(iron, LEVEL, NORTH))
        # North part 0, but a fore part for the last number to go with.
        swung = rows_of([0] * 7 + [Fraction(5, 4)] + [0] * 4)
        self.assertEqual(field_at(swung, LEVEL, STEER, 0), (0, Fraction(3, 4)))
        self.assertIsNone(heel_rate(swung, LEVEL, STEER))
        self.assertIsNone(righting_magnet(swung, LEVEL, STEER))

    def test_a_north_part_below_nought(self):
        iron = rows_of([0, 0, 0, -3] + [0] * 7 + [1])
        self.assertEqual(heel_rate(iron, LEVEL, NORTH), (1, 2))
        self.assertEqual(righting_magnet(iron, LEVEL, NORTH), NIL)

    def test_the_magnet_rights_the_heel(self):
        stream = Stream(9)
        done = 0
        for _ in range(300):
            iron, place, heading = stream.iron(), stream.place(), stream.heading()
            magnet = righting_magnet(iron, place, heading)
            rates = [heel_rate(with_last(iron, each), place, heading) for each in (NIL, ONE)]
            if rates[0] is None:
                self.assertIsNone(magnet)
            elif rates[0] == rates[1]:
                self.assertIsNone(magnet)
            else:
                self.assertEqual(heel_rate(with_last(iron, magnet), place, heading), NIL)
                done += 1
        self.assertGreater(done, 200)

    def test_the_magnet_does_not_hang_on_the_last_number(self):
        iron = rows_of([0, 0, 0, 0, 0, 0, 0, 0, 0, 0, -1, 0])
        # At north with Z = 2 the rate is - (2 k + R) = 2 - R.
        for last in (-4, 0, 2, 7):
            told = with_last(iron, fraction(last))
            self.assertEqual(heel_rate(told, ((1, 1), (2, 1)), NORTH), fraction(2 - last))
            self.assertEqual(righting_magnet(told, ((1, 1), (2, 1)), NORTH), (2, 1))

    def test_a_rate_of_nought_needs_the_number_that_is_there(self):
        bare = (NOTHING,) * 3
        self.assertEqual(heel_rate(bare, LEVEL, NORTH), NIL)
        self.assertEqual(righting_magnet(bare, LEVEL, NORTH), NIL)
        self.assertEqual(righting_magnet(bare, LEVEL, SOUTH), NIL)

    def test_where_the_last_number_does_not_go_into_it(self):
        # At east and west the fore part is 0, with a rate of 0 or another one.
        bare = (NOTHING,) * 3
        for heading in (EAST, WEST):
            self.assertIsNone(righting_magnet(bare, LEVEL, heading))
        iron = rows_of([0, 0, 1] + [0] * 9)
        # The fore part p c' Z - q c' Y grows with the heel.
        self.assertEqual(heel_rate(iron, LEVEL, EAST), ONE)
        self.assertIsNone(righting_magnet(iron, LEVEL, EAST))
        self.assertEqual(righting_magnet(iron, STEEP, EAST), rate_zero(iron, STEEP, EAST))


def rate_zero(iron, place, heading):
    """The last number at which the straight line through two rates is 0."""
    first, second = [number(heel_rate(with_last(iron, each), place, heading)) for each in (NIL, ONE)]
    return fraction(-first / (second - first))


class HeelArguments(Arguments, unittest.TestCase):
    MODULE = "ironships.heels"
    CALLS = (
        (heeled, ("iron", "half")),
        (heel_waves, ("iron", "place", "heading")),
        (is_within_heels, ("iron", "place", "heading", "half", "low", "high")),
        (is_still, ("iron", "place", "heading", "half")),
        (heel_rate, ("iron", "place", "heading")),
        (righting_magnet, ("iron", "place", "heading")),
    )
    RIGHT = {"iron": POST, "place": LEVEL, "heading": NORTH, "half": HALF, "low": (-4, 5), "high": (4, 5)}
    ERRORS = {
        "iron": InvalidIron, "place": InvalidPlace, "heading": InvalidHeading, "half": InvalidFraction,
        "low": InvalidFraction, "high": InvalidFraction,
    }
    WRONG = {
        "iron": [(NOTHING,) * 2, [NOTHING] * 3, rows_of([-2] + [0] * 11), (NOTHING, list(NOTHING), NOTHING), LEVEL],
        "place": [(NIL, ONE), ((-1, 2), ONE), [ONE, NIL], NOTHING],
        "heading": [(NIL, NIL), [ONE, NIL], (ONE, ONE), ((6, 10), (4, 5)), (1, 0)],
        "half": [[1, 2], ONE, (-1, 1), (3, 2), (-3, 2), (2, 4), 0, (HUGE, HUGE - 1)],
        "low": [[1, 2], 0, 1, (2, 4), (1, -2)],
        "high": [[1, 2], 0, 1, (2, 4), (1, -2)],
    }

    def test_halves_of_a_stretch(self):
        for call, names in ((is_within_heels, self.CALLS[2][1]), (is_still, self.CALLS[3][1])):
            told = {each: self.RIGHT[each] for each in names}
            for half in (NIL, (-1, 2), ONE, (-1, 1), (2, 1), (-1, HUGE), (HUGE + 1, HUGE)):
                told["half"] = half
                refused(self, call, told, InvalidFraction, half)
            for half in ((1, HUGE), (HUGE - 1, HUGE), (99, 100)):
                told["half"] = half
                self.assertIs(type(call(**told)), bool)

    def test_bounds_the_wrong_way_round(self):
        told = dict(self.RIGHT)
        for low, high in ((ONE, HALF), (NIL, (-1, HUGE)), ((1, 3), (333, 1000))):
            told.update(low=low, high=high)
            refused(self, is_within_heels, told, HighBelowLow, high)
        # Both bounds are looked at before their order is, and all else before the bounds.
        told.update(low=ONE, high=(2, 4))
        refused(self, is_within_heels, told, InvalidFraction, told["high"])
        told.update(half=ONE, high=HALF)
        refused(self, is_within_heels, told, InvalidFraction, told["half"])
        told.update(half=HALF, low=HALF)
        self.assertIs(is_within_heels(**told), False)

    def test_lost_strength_comes_last(self):
        iron = rows_of([-1, 0, 0, 5, 0, 0, 0, 0, 0, 0, -3, 0])
        refused(self, heeled, {"iron": iron, "half": ONE}, InvalidFraction, ONE)
        with self.assertRaises(TooMuchIron) as caught:
            heeled(iron, HALF)
        self.assertEqual(vars(caught.exception), {})
        # Only the heeled iron is refused; what is told of the heels is not.
        self.assertIs(is_still(iron, LEVEL, NORTH, HALF), True)


if __name__ == "__main__":
    unittest.main()

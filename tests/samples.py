"""Values and helpers that several tests share; Python's own Fraction stands beside the program's fractions."""

from fractions import Fraction

NIL = (0, 1)
ONE = (1, 1)
HALF = (1, 2)
NORTH, EAST, SOUTH, WEST = ((1, 1), (0, 1)), ((0, 1), (1, 1)), ((-1, 1), (0, 1)), ((0, 1), (-1, 1))
STEER = ((3, 5), (4, 5))
NOTHING = (NIL, NIL, NIL, NIL)
POST = (NOTHING, NOTHING, (NIL, NIL, NIL, ONE))
LEVEL = ((1, 1), (0, 1))
HUGE = 10 ** 399 + 7


class Spiteful:
    """A value that lets nobody compare, count or hash it."""

    def __eq__(self, other):
        raise RuntimeError("compared")

    def __hash__(self):
        raise RuntimeError("hashed")

    def __len__(self):
        raise RuntimeError("counted")

    def __bool__(self):
        raise RuntimeError("tested")


def nested(depth):
    value = ()
    for _ in range(depth - 1):
        value = (value,)
    return value


# None of these is anything that the package knows: no fraction, surd, heading, iron, place, wave or number.
STRANGE = [
    None, True, False, "", "text", "1/2", b"", b"ab", [], [1, 2], [(1, 1), (0, 1)], {}, {1: 2}, set(), object(), int,
    Spiteful(), 1j, (), (1,), (None,), (None, None), ("1", "2"), ("", 1), (1, ""), ([1], 2), (1, [2]), (True, 1),
    (1, True), (False, 1), (1, None), (None, 1), (1, 2, 3), (2, 4), (0, 2), (0, 0), (1, 0), (-1, 0), (1, -2), (0, -1),
    (-3, 6), (HUGE * 2, HUGE * 3), (Spiteful(), 1), (1, Spiteful()), (1j, 1), ((1, 2),), ((1, 2), (1, 2), (1, 2), ()),
    nested(14), ((1, 2), Spiteful()),
]


def fraction(value):
    """The program's fraction of a Python number."""
    value = Fraction(value)
    return (value.numerator, value.denominator)


def number(pair):
    """Python's Fraction of the program's fraction."""
    return Fraction(pair[0], pair[1])


def rows_of(numbers):
    """A piece of twelve Python numbers, row by row."""
    told = [fraction(each) for each in numbers]
    return (tuple(told[:4]), tuple(told[4:8]), tuple(told[8:]))


def heading_of_half(half):
    """The heading with this half tangent, a Python number."""
    half = Fraction(half)
    scale = 1 + half * half
    return (fraction((1 - half * half) / scale), fraction(2 * half / scale))


def five_of(*numbers):
    """A five, or a wave, of five Python numbers."""
    return tuple(fraction(each) for each in numbers)


def force_at(five, heading):
    """K and L as [12] tells them."""
    a, b, c, d, e = [number(each) for each in five]
    k, s = [number(each) for each in heading]
    double, doubled = k * k - s * s, 2 * k * s
    return (1 + b * k - c * s + d * double - e * doubled, a + b * s + c * k + d * doubled + e * double)


def ship_force_at(five, heading):
    """X and Y as [13] tells them."""
    a, b, c, d, e = [number(each) for each in five]
    k, s = [number(each) for each in heading]
    return (b + (1 + d) * k + (a - e) * s, c + (a + e) * k + (d - 1) * s)


def dead_five(a, d, e, heading):
    """The five with these A, D and E, Python numbers, that has no force at the heading."""
    k, s = [number(each) for each in heading]
    return five_of(a, -(1 + d) * k - (a - e) * s, -(a + e) * k - (d - 1) * s, d, e)


def lined_five(a, turn, share):
    """A five with W, T1 and T2 0: seen from the ship its force is along one line, share telling how far aside."""
    c, s = [number(each) for each in turn]
    d, e = c - a * s, a * c + s
    return five_of(a, share * (1 + d), share * (a + e), d, e)


def wave_worth(wave, heading):
    """What [19] says that the wave is worth at the heading."""
    k = [number(each) for each in wave]
    c, s = [number(each) for each in heading]
    return k[0] + k[1] * c + k[2] * s + k[3] * (c * c - s * s) + 2 * k[4] * c * s


def sign(told):
    """-1, 0 or 1 as a Python number is below, equal to, above 0."""
    return (told > 0) - (told < 0)


class Stream:
    """The same row of whole numbers in each run."""

    def __init__(self, seed):
        self.state = seed

    def whole(self, low, high):
        self.state = (self.state * 6364136223846793005 + 1442695040888963407) % 2 ** 64
        return low + (self.state >> 33) % (high - low + 1)

    def ratio(self, size=6, bottom=5):
        return Fraction(self.whole(-size, size), self.whole(1, bottom))

    def iron(self):
        while True:
            numbers = [self.ratio() for _ in range(12)]
            if 2 + numbers[0] + numbers[5] > 0:
                return rows_of(numbers)

    def place(self):
        return (fraction(Fraction(self.whole(1, 9), self.whole(1, 4))), fraction(self.ratio()))

    def five(self, size=6, bottom=5, scale=1):
        return tuple(fraction(self.ratio(size, bottom) / scale) for _ in range(5))

    def heading(self):
        return SOUTH if self.whole(0, 12) == 0 else heading_of_half(self.ratio())

"""Values and helpers that several tests share; Python's own Fraction stands beside the program's fractions."""

from fractions import Fraction

NIL = (0, 1)
ONE = (1, 1)
HALF = (1, 2)
NORTH, EAST, SOUTH, WEST = ((1, 1), (0, 1)), ((0, 1), (1, 1)), ((-1, 1), (0, 1)), ((0, 1), (-1, 1))
STEER = ((3, 5), (4, 5))
NOTHING = (NIL, NIL, NIL, NIL)
POST = (NOTHING, NOTHING, (NIL, NIL, NIL, ONE))
LEVEL = ((1, 1), (0, 1))
HUGE = 10 ** 399 + 7


class Spiteful:
    """A value that lets nobody compare, count or hash it."""

    def __eq__(self, other):
        raise RuntimeError("compared")

    def __hash__(self):
        raise RuntimeError("hashed")

    def __len__(self):
        raise RuntimeError("counted")

    def __bool__(self):
        raise RuntimeError("tested")


def nested(depth):
    value = ()
    for _ in range(depth - 1):
        value = (value,)
    return value


# None of these is anything that the package knows: no fraction, surd, heading, iron, place, wave or number.
STRANGE = [
    None, True, False, "", "text", "1/2", b"", b"ab", [], [1, 2], [(1, 1), (0, 1)], {}, {1: 2}, set(), object(), int,
    Spiteful(), 1j, (), (1,), (None,), (None, None), ("1", "2"), ("", 1), (1, ""), ([1], 2), (1, [2]), (True, 1),
    (1, True), (False, 1), (1, None), (None, 1), (1, 2, 3), (2, 4), (0, 2), (0, 0), (1, 0), (-1, 0), (1, -2), (0, -1),
    (-3, 6), (HUGE * 2, HUGE * 3), (Spiteful(), 1), (1, Spiteful()), (1j, 1), ((1, 2),), ((1, 2), (1, 2), (1, 2), ()),
    nested(14), ((1, 2), Spiteful()),
]


def fraction(value):
    """The program's fraction of a Python number."""
    value = Fraction(value)
    return (value.numerator, value.denominator)


def number(pair):
    """Python's Fraction of the program's fraction."""
    return Fraction(pair[0], pair[1])


def rows_of(numbers):
    """A piece of twelve Python numbers, row by row."""
    told = [fraction(each) for each in numbers]
    return (tuple(told[:4]), tuple(told[4:8]), tuple(told[8:]))


def heading_of_half(half):
    """The heading with this half tangent, a Python number."""
    half = Fraction(half)
    scale = 1 + half * half
    return (fraction((1 - half * half) / scale), fraction(2 * half / scale))


class Stream:
    """The same row of whole numbers in each run."""

    def __init__(self, seed):
        self.state = seed

    def whole(self, low, high):
        self.state = (self.state * 6364136223846793005 + 1442695040888963407) % 2 ** 64
        return low + (self.state >> 33) % (high - low + 1)

    def ratio(self, size=6, bottom=5):
        return Fraction(self.whole(-size, size), self.whole(1, bottom))

    def iron(self):
        while True:
            numbers = [self.ratio() for _ in range(12)]
            if 2 + numbers[0] + numbers[5] > 0:
                return rows_of(numbers)

    def place(self):
        return (fraction(Fraction(self.whole(1, 9), self.whole(1, 4))), fraction(self.ratio()))

    def heading(self):
        return SOUTH if self.whole(0, 12) == 0 else heading_of_half(self.ratio())

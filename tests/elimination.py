"""Straight bounds by elimination (Fourier, Motzkin): a second way to tell what the program tells by its own."""

from fractions import Fraction
from math import gcd, lcm

NUMBERS = 5


def whole_row(row):
    bottom = lcm(*[Fraction(each).denominator for each in row])
    return reduced_row([int(each * bottom) for each in row])


def reduced_row(row):
    common = gcd(*row)
    return [each // common for each in row] if common > 1 else row


def without(rows, at, most):
    """The rows that are left as one of the five numbers is eliminated.

    What comes from more than so many of the first rows follows from the others (Chernikov)."""
    kept = [row for row in rows if row[0][at] == 0]
    for upward, is_strict, origins in rows:
        for downward, other_is_strict, other_origins in rows:
            both = origins | other_origins
            if upward[at] > 0 > downward[at] and len(both) <= most:
                numbers = [-downward[at] * each + upward[at] * other for each, other in zip(upward, downward)]
                kept.append((reduced_row(numbers), is_strict or other_is_strict, both))
    return kept


def eliminated(rows, strict_rows, index=None):
    """What the rows, from 0 on or above 0, say of one number alone, or of none."""
    rows = [(row, False) for row in rows] + [(row, True) for row in strict_rows]
    left = [(whole_row(row), is_strict, frozenset([at])) for at, (row, is_strict) in enumerate(rows)]
    others = [at for at in range(NUMBERS) if at != index]
    for many in range(len(others)):
        at = min(others, key=lambda at: sum(row[at] > 0 for row, _, _ in left) * sum(row[at] < 0 for row, _, _ in left))
        others.remove(at)
        left = without(left, at, many + 2)
    return left


def is_possible(rows, strict_rows=()):
    """Whether some five lets all rows be from 0 on, and the strict ones above it."""
    left = eliminated(rows, strict_rows)
    return all(row[NUMBERS] > 0 or row[NUMBERS] == 0 and not is_strict for row, is_strict, _ in left)


def ends_of(rows, index):
    """The least and the greatest of one number where all rows are from 0 on, as they are somewhere."""
    low = high = None
    for row, _, _ in eliminated(rows, (), index):
        if row[index] > 0:
            end = Fraction(-row[NUMBERS], row[index])
            low = end if low is None else max(low, end)
        elif row[index] < 0:
            end = Fraction(-row[NUMBERS], row[index])
            high = end if high is None else min(high, end)
    return low, high

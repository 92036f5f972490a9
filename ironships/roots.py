"""The roots of a polynomial in one quarter, told exactly: how many, between which fractions, and with which signs."""

from ironships.headings import BEGINS, heading_of, turned
from ironships.polynomials import (
    derived, may_be_nought_at_a_fraction, multiplied, root_chain, sign_at, sturm_chain, turns,
)
from ironships.ratios import HALF, NOUGHT, ONE, plus, reduced, times


class Roots:
    """The roots of a polynomial other than () from 0 on, below 1, in order, each once."""

    def __init__(self, polynomial):
        self.chain = root_chain(polynomial)
        self.once = self.chain[0]
        self.first_turns = turns(self.chain, NOUGHT)
        self.has_nought = sign_at(self.once, NOUGHT) == 0
        self.many = self.below(ONE)

    def below(self, fraction):
        """How many of them are below a fraction from 0 up to 1."""
        # By Sturm's theorem the turns that are lost count the roots above 0, up to the fraction.
        many = self.first_turns - turns(self.chain, fraction)
        if self.has_nought:
            many += 1
        return many - 1 if sign_at(self.once, fraction) == 0 else many

    def near(self, index, many):
        """The greatest whole number n with n / many not above a root, and whether n / many is this root."""
        if index == 0 and self.has_nought:
            return (0, True)
        before, after = self._ends(index)
        sign_before = sign_at(self.once, before)
        low, high = many * before[0] // before[1], many * after[0] // after[1] + 1
        while high - low > 1:
            # This is above the one end and not above the other, so that the sign tells of this root alone.
            middle = (low + high) // 2
            sign = sign_at(self.once, (middle, many))
            if sign == 0:
                return (middle, True)
            if sign == sign_before:
                low = middle
            else:
                high = middle
        return (low, False)

    def as_fraction(self, index):
        """A root as a fraction; None if it is none."""
        # A fraction that is a root has a number below that divides the leading one.
        scale = abs(self.once[-1])
        top, is_just = self.near(index, scale)
        return reduced(top, scale) if is_just else None

    def behind(self, index):
        """A fraction above a root and below the next one, or 1 behind the last one."""
        low, high = NOUGHT, ONE
        while True:
            middle = times(HALF, plus(low, high))
            below = self.below(middle)
            if below == index + 1 and sign_at(self.once, middle) != 0:
                return middle
            if below <= index:
                low = middle
            else:
                high = middle

    def sign_there(self, index, other):
        """The sign of another polynomial at a root."""
        if index == 0 and self.has_nought:
            return sign_at(other, NOUGHT)
        before, after = self._ends(index)
        # By Tarski's theorem the turns that are lost are the sum of the signs at the roots between: of one root here.
        chain = sturm_chain(self.once, multiplied(derived(self.once), other))
        return turns(chain, before) - turns(chain, after)

    def _ends(self, index):
        """Two fractions, themselves no roots, between which there is just this root, which is not 0."""
        return (self.behind(index - 1) if index > 0 else NOUGHT, self.behind(index))


def heading_with_sign(polynomials, sign):
    """A heading at which the polynomial of its quarter has the sign 1 or -1; None if there is none."""
    # The begin of a quarter stands for the stretch up to its first root; no root has to be looked for there.
    for quarter, polynomial in enumerate(polynomials):
        if sign_at(polynomial, NOUGHT) == sign:
            return BEGINS[quarter]
    for quarter, polynomial in enumerate(polynomials):
        for rest in _rests_behind_roots(polynomial):
            if sign_at(polynomial, rest) == sign:
                return _heading_in(quarter, rest)
    return None


def heading_at_root(polynomials):
    """A heading told by fractions at which the polynomial of its quarter, never (), is 0; None if there is none."""
    for quarter, polynomial in enumerate(polynomials):
        roots = Roots(polynomial)
        if may_be_nought_at_a_fraction(roots.once):
            for index in range(roots.many):
                rest = roots.as_fraction(index)
                if rest is not None:
                    return _heading_in(quarter, rest)
    return None


def _rests_behind_roots(polynomial):
    """A fraction behind each root from 0 on, below 1, up to the next one or 1; none for ()."""
    if polynomial == ():
        return []
    roots = Roots(polynomial)
    return [roots.behind(index) for index in range(roots.many)]


def _heading_in(quarter, rest):
    """The heading whose angle behind the begin of the quarter has this half tangent."""
    return turned(BEGINS[quarter], heading_of(rest))

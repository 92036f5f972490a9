"""Polynomials of whole numbers: tuples from the constant number on, the last not 0; () is 0 everywhere.

Only their signs matter here, so each may be taken times any whole number above 0."""

from math import gcd

from ironships.ratios import HALF, plus, times, whole_sign

PRIMES = (3, 5, 7, 11, 13, 17, 19, 23)


def polynomial_of(numbers):
    """The polynomial with these whole numbers, without what they have in common."""
    many = len(numbers)
    while many > 0 and numbers[many - 1] == 0:
        many -= 1
    common = 0
    for number in numbers:
        common = gcd(common, number)
    return tuple([number // common for number in numbers[:many]])


def sign_at(polynomial, fraction):
    """The sign of what the polynomial is worth at a fraction."""
    top, bottom = fraction
    total, scale = 0, 1
    for number in polynomial[::-1]:
        total = total * top + number * scale
        scale = scale * bottom
    return whole_sign(total)


def is_above(polynomial, low, high):
    """Whether the polynomial is above 0 from the fraction low up to the fraction high, both counted in."""
    if sign_at(polynomial, low) < 1 or sign_at(polynomial, high) < 1:
        return False
    return _turns_lost(sturm_chain(polynomial, derived(polynomial)), low, high) == 0


def is_nowhere_below(polynomial, low, high):
    """Whether the polynomial is 0 or above from the fraction low up to the fraction high, low being less."""
    if polynomial == ():
        return True
    chain = sturm_chain(polynomial, derived(polynomial))
    if len(chain[-1]) > 1:
        # Some root is a multiple one, so that it may be one where the sign does not turn.
        polynomial = _odd_part(polynomial)
        chain = sturm_chain(polynomial, derived(polynomial))
    inside = _turns_lost(chain, low, high)
    if sign_at(polynomial, high) == 0:
        inside -= 1
    return inside == 0 and sign_at(polynomial, times(HALF, plus(low, high))) > 0


def root_chain(polynomial):
    """Sturm's chain of a polynomial that is not (), each over what the polynomial has in common with its derivative.

    So the first one has the same roots, each once."""
    chain = sturm_chain(polynomial, derived(polynomial))
    if len(chain[-1]) == 1:
        return chain
    return [_quotient(each, chain[-1]) for each in chain]


def may_be_nought_at_a_fraction(polynomial):
    """Whether a fraction may be a root; if not, there is none for certain, which spares a long search."""
    for prime in PRIMES:
        rests = [number % prime for number in polynomial]
        # A root n / m has an m that divides the leading number, so it is also one among the remainders.
        if rests[-1] != 0 and all([_rest_at(rests, residue, prime) != 0 for residue in range(prime)]):
            return False
    return True


def derived(polynomial):
    """The derivative of a polynomial."""
    return polynomial_of([at * number for at, number in enumerate(polynomial)][1:])


def multiplied(polynomial, other):
    """The product of two polynomials."""
    return sum_of_products([(polynomial, other)])


def sum_of_products(pairs):
    """The sum of the products of pairs of rows of whole numbers, as those of polynomials are."""
    numbers = [0] * max([len(row) + len(other) for row, other in pairs])
    for row, other in pairs:
        for at, number in enumerate(row):
            for other_at, other_number in enumerate(other):
                numbers[at + other_at] += number * other_number
    return polynomial_of(numbers)


def sturm_chain(polynomial, following):
    """Both polynomials, and then the opposite of each rest, down to the last that is not ()."""
    chain = [polynomial]
    while following != ():
        rest = _divided(chain[-1], following)[1]
        chain.append(following)
        following = _opposite(rest)
    return chain


def turns(chain, fraction):
    """How often the sign turns along the chain at a fraction, noughts left out."""
    many, before = 0, 0
    for polynomial in chain:
        sign = sign_at(polynomial, fraction)
        if sign * before < 0:
            many += 1
        if sign != 0:
            before = sign
    return many


def _rest_at(rests, residue, prime):
    """What a polynomial is worth at a whole number, as a remainder by a prime."""
    total = 0
    for rest in rests[::-1]:
        total = (total * residue + rest) % prime
    return total


def _divided(polynomial, other):
    """The quotient and the rest of a polynomial by another one that is not (), each with its signs kept."""
    lead = other[-1]
    quotient, rest = [], list(polynomial)
    for at in range(len(polynomial) - len(other), -1, -1):
        top = rest[at + len(other) - 1]
        factor = top if lead > 0 else -top
        # Times the size of the lead, so that nothing is broken; being above 0 it turns no sign.
        rest = [abs(lead) * number for number in rest]
        quotient = [factor] + [abs(lead) * number for number in quotient]
        for other_at, number in enumerate(other):
            rest[at + other_at] -= factor * number
    return polynomial_of(quotient), polynomial_of(rest)


def _quotient(polynomial, divisor):
    """The quotient of a polynomial by another one that divides it."""
    return _divided(polynomial, divisor)[0]


def _common_divisor(polynomial, other):
    """The greatest polynomial that divides both, the first not being (); its last number is above 0."""
    while other != ():
        polynomial, other = other, _divided(polynomial, other)[1]
    return _upward(polynomial)


def _upward(polynomial):
    """The polynomial or its opposite, whichever has its last number above 0."""
    if polynomial[-1] > 0:
        return polynomial
    return _opposite(polynomial)


def _opposite(polynomial):
    """The polynomial with all signs turned."""
    return tuple([-number for number in polynomial])


def _odd_part(polynomial):
    """A polynomial with the signs of this one, which is not (), wherever this one is not 0.

    Its roots are those of odd multiplicity, where the sign turns, each once."""
    odd = (whole_sign(polynomial[-1]),)
    polynomial = _upward(polynomial)
    left = _common_divisor(polynomial, derived(polynomial))
    factors = _quotient(polynomial, left)
    is_odd = True
    # Each round parts off the roots of the next multiplicity.
    while len(factors) > 1:
        further = _common_divisor(factors, left)
        if is_odd:
            odd = multiplied(odd, _quotient(factors, further))
        factors, left = further, _quotient(left, further)
        is_odd = not is_odd
    return odd


def _turns_lost(chain, low, high):
    """By Sturm's theorem the number of roots above low, up to high, if neither is a multiple one."""
    return turns(chain, low) - turns(chain, high)

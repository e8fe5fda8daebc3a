"""At which rests by a base the value of a sum is divided by it, and at which integers it is 0."""

from restworld.arithmetic import raised
from restworld.branches import zero_facts
from restworld.checks import check_base, check_number, check_sum, check_sum_not_nought, check_within
from restworld.coefficients import rest_at, value_at
from restworld.errors import TooMany
from restworld.limits import MOST_LISTED
from restworld.merging import merged
from restworld.numbers import apart, divisors
from restworld.small_primes import apart_in_small

MOST_BARRING = 1000


def is_zero(terms, number, base):
    """Whether the base divides the value at the number."""
    check_sum(terms)
    check_number(number)
    check_base(base)
    return rest_at(terms, number, base) == 0


def count_zeros(terms, base):
    """How many rests by the base are zeros."""
    check_sum(terms)
    many = 1
    for prime, often in apart_in_small(base):
        many *= _count_by_power(terms, prime, often)
    return many


def zeros(terms, base):
    """The rests by the base that are zeros, ascending."""
    many = count_zeros(terms, base)
    if many > MOST_LISTED:
        raise TooMany(MOST_LISTED)
    if many == 0:
        # By one part of the base there may be more zeros than can be listed, if by another one there is none.
        return ()
    found = [(0, 1)]
    for prime, often in apart(base):
        listed = _listed_by_power(terms, prime, often)
        found = [merged(known, fact) for known in found for fact in listed]
    return tuple(sorted([rest for rest, _ in found]))


def barring(terms, most):
    """The least base from 2 to the most by which there is no zero, None if there is none."""
    check_sum(terms)
    check_within(most, 1, MOST_BARRING)
    for base in range(2, most + 1):
        pairs = apart(base)
        # A base of several primes has a zero if each of their powers, all of them less, has one.
        if len(pairs) == 1 and not zero_facts(terms, pairs[0][0], pairs[0][1]):
            return base
    return None


def whole_zeros(terms):
    """The integers at which the value is 0, ascending."""
    check_sum_not_nought(terms)
    lowest = 0
    while terms[lowest] == 0:
        lowest += 1
    found = [0] if lowest else []
    left = terms[lowest:]
    for divisor in divisors(abs(left[0])):
        for number in (-divisor, divisor):
            if value_at(left, number) == 0:
                found.append(number)
    return tuple(sorted(found))


def _count_by_power(terms, prime, often):
    power = raised(prime, often)
    return sum([power // base for _, base in zero_facts(terms, prime, often)])


def _listed_by_power(terms, prime, often):
    """The zeros by the power of the prime, as facts by it."""
    power = raised(prime, often)
    return [(number, power) for rest, base in zero_facts(terms, prime, often) for number in range(rest, power, base)]

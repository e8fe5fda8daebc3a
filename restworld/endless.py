"""Zeros of a sum by the powers of a prime that go on for ever."""

from restworld.arithmetic import raised
from restworld.branches import zeros_by_prime
from restworld.checks import check_number, check_often, check_prime, check_sum_not_nought
from restworld.coefficients import rest_at, slope_of
from restworld.spread import Spread


def count_by_power(terms, prime, often):
    """How many zeros there are by the prime to this power."""
    _check(terms, prime)
    check_often(often)
    return Spread(terms, prime).count(often)


def above(terms, prime, often, number):
    """The zeros by one power more that leave the rest of the number by the prime to this power, ascending."""
    _check(terms, prime)
    check_often(often)
    check_number(number)
    if often == 0:
        return tuple(zeros_by_prime(terms, prime))
    power = raised(prime, often)
    least = number % power
    held, over = divmod(rest_at(terms, least, power * prime), power)
    if over:
        return ()
    # By one power more the value at least + step * power goes with the slope alone.
    lean = rest_at(slope_of(terms), least, prime)
    return tuple([least + step * power for step in range(prime) if (held + step * lean) % prime == 0])


def count_endless(terms, prime):
    """How many endless zeros there are."""
    _check(terms, prime)
    return len(Spread(terms, prime).endings)


def endless(terms, prime, often):
    """For each endless zero its rest by the prime to this power, how manifold it is, and its depth, ascending."""
    _check(terms, prime)
    check_often(often)
    endings = Spread(terms, prime).endings
    return tuple(sorted([(one.rest_by(prime, often), one.manifold, one.depth) for one in endings]))


def rule(terms, prime):
    """From which power on how many zeros there are goes by the pairs (depth, how manifold) of the endless ones."""
    _check(terms, prime)
    spread = Spread(terms, prime)
    begin = spread.settled()
    while begin > 0 and spread.count(begin - 1) == spread.count_by_rule(begin - 1):
        begin -= 1
    return begin, tuple(sorted([(one.depth, one.manifold) for one in spread.endings]))


def has_all_powers(terms, prime):
    """Whether there is a zero by each power of the prime."""
    return first_power_without(terms, prime) is None


def first_power_without(terms, prime):
    """The least k for which there is no zero by the prime to the power k, None if there is none."""
    _check(terms, prime)
    spread = Spread(terms, prime)
    if spread.endings:
        return None
    return spread.settled()


def _check(terms, prime):
    check_sum_not_nought(terms)
    check_prime(prime)

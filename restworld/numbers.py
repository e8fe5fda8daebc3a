"""Divisors, primes and products of whole numbers."""

from math import gcd, lcm

from restworld.arithmetic import bezout, times_in
from restworld.checks import check_base, check_number, check_prime
from restworld.errors import InvalidNumber, TooGreat
from restworld.limits import MOST_BASE


def common(one, other):
    """The greatest integer that divides both, 0 if both are 0."""
    check_number(one)
    check_number(other)
    return gcd(one, other)


def multiple(one, other):
    """The least integer from 0 on that both divide, 0 if one of them is 0."""
    check_number(one)
    check_number(other)
    return lcm(one, other)


def combined(one, other):
    """A pair (u, v) for which u * one + v * other is what `common` tells."""
    check_number(one)
    check_number(other)
    return bezout(one, other)


def apart(base):
    """The pairs (prime, how often it divides the base), primes ascending."""
    check_base(base)
    pairs = []
    left = base
    divisor = 2
    while divisor * divisor <= left:
        if left % divisor == 0:
            often = times_in(left, divisor)
            pairs.append((divisor, often))
            for _ in range(often):
                left //= divisor
        divisor += 1 if divisor == 2 else 2
    if left > 1:
        pairs.append((left, 1))
    return tuple(pairs)


def divisors(base):
    """All integers from 1 on that divide the base, ascending."""
    found = [1]
    for prime, often in apart(base):
        layer = found
        for _ in range(often):
            layer = [prime * divisor for divisor in layer]
            found = found + layer
    return tuple(sorted(found))


def is_prime(number):
    """Whether the number is a prime."""
    check_number(number)
    if number > MOST_BASE:
        raise TooGreat(number)
    return number > 1 and apart(number) == ((number, 1),)


def often_in(number, prime):
    """How often the prime divides the number."""
    check_number(number)
    if number == 0:
        raise InvalidNumber(number)
    check_prime(prime)
    return times_in(number, prime)


def often_in_product(number, prime):
    """How often the prime divides 1 * 2 * .. * number."""
    check_number(number)
    if number < 0:
        raise InvalidNumber(number)
    check_prime(prime)
    often = 0
    left = number
    while left:
        left //= prime
        often += left
    return often


def least_product(base):
    """The least k from 0 on for which the base divides 1 * 2 * .. * k."""
    return max([_least_holding(prime, often) for prime, often in apart(base)], default=0)


def _least_holding(prime, often):
    """The least k for which the prime divides 1 * 2 * .. * k so often."""
    k = 0
    held = 0
    while held < often:
        k += prime
        held += times_in(k, prime)
    return k

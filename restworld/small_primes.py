"""Bases whose primes are looked at one by one."""

from restworld.errors import TooGreat
from restworld.limits import MOST_PRIME
from restworld.numbers import apart


def apart_in_small(base):
    """What `apart` tells of the base; raises TooGreat with the least prime of it that is too great."""
    pairs = apart(base)
    for prime, _ in pairs:
        if prime > MOST_PRIME:
            raise TooGreat(prime)
    return pairs

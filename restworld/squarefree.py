"""A sum without its manifold zeros; nothing is checked here."""

from math import gcd

from restworld.coefficients import slope_of, trimmed


def radical(terms):
    """A sum, not divided by an integer above 1, with the same zeros of any kind, each of them once.

    The sum that is passed is not nought.
    """
    plain = _primitive(terms)
    return _quotient(plain, _shared(plain, slope_of(plain)))


def _primitive(terms):
    """The coefficients without their common divisor."""
    common = 0
    for coefficient in terms:
        common = gcd(common, coefficient)
    return tuple([coefficient // common for coefficient in terms])


def _shared(one, other):
    """The greatest sum that divides both; the one is not nought."""
    while any(other):
        one, other = other, _remainder(one, other)
        if any(other):
            other = _primitive(other)
    return _primitive(one)


def _remainder(one, other):
    """What is left of the one, times any integer, when it is divided by the other one."""
    left = list(one)
    while len(left) >= len(other) and any(left):
        lead = left[-1]
        left = [coefficient * other[-1] for coefficient in left]
        behind = len(left) - len(other)
        for power, coefficient in enumerate(other):
            left[behind + power] -= lead * coefficient
        left = list(trimmed(left))
    return tuple(left)


def _quotient(one, other):
    """The one divided by the other one, which divides it."""
    left = list(one)
    parts = []
    for behind in range(len(one) - len(other), -1, -1):
        times = left[behind + len(other) - 1] // other[-1]
        parts.append(times)
        for power, coefficient in enumerate(other):
            left[behind + power] -= times * coefficient
    return tuple(parts[::-1])

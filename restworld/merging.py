"""Facts: who fits one, and what two of them make; nothing is checked here."""

from math import gcd, lcm

from restworld.arithmetic import inverse


def is_fitting(number, fact):
    """Whether the number fits the fact."""
    rest, base = fact
    return (number - rest) % base == 0


def are_quarrelling(one, other):
    """Whether no number fits both facts."""
    return (one[0] - other[0]) % gcd(one[1], other[1]) != 0


def along(fact, other):
    """The fact that just the places fit at which the numbers that fit the fact fit the other one, None if none do.

    The number at a place is the rest and so many times the base.
    """
    rest, base = fact
    shared = gcd(base, other[1])
    between = other[0] - rest
    if between % shared:
        return None
    step = other[1] // shared
    return between // shared * inverse(base // shared, step) % step, step


def merged(one, other):
    """The fact that just the numbers fit that fit both, None if both quarrel."""
    places = along(one, other)
    if places is None:
        return None
    place, step = places
    return one[0] + one[1] * place, one[1] * step


def all_merged(facts):
    """The fact that just the numbers fit that fit all of them, None if two quarrel."""
    made = (0, 1)
    for fact in facts:
        if made is not None:
            made = merged(made, fact)
    return made


def is_told(fact, known):
    """Whether all numbers that fit the known fact fit the fact."""
    return known[1] % fact[1] == 0 and is_fitting(known[0], fact)


def common_base(facts):
    """The least common multiple of the bases of all of them."""
    common = 1
    for _, base in facts:
        common = lcm(common, base)
    return common


def left_by(fact, base):
    """The fact (r, g), g dividing the base, for the rests by it of the numbers that fit."""
    shared = gcd(fact[1], base)
    return fact[0] % shared, shared


def least_from(fact, low):
    """The least number from low on that fits."""
    return low + (fact[0] - low) % fact[1]


def count_between(fact, low, high):
    """How many numbers from low to high fit."""
    rest, base = fact
    return (high - rest) // base - (low - 1 - rest) // base

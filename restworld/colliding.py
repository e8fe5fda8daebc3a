"""Numbers that a sum leads to one rest; nothing is checked here but the primes of the base."""

from restworld.arithmetic import raised
from restworld.branches import zero_facts
from restworld.coefficients import difference, slope_of, value_at
from restworld.merging import merged
from restworld.small_primes import apart_in_small
from restworld.tables import table_of


def colliding_pair(terms, base):
    """Two numbers with unlike rests by the base at which the sum leaves the same one, None if it turns the rests."""
    for prime, often in apart_in_small(base):
        pair = _pair_by_power(terms, prime, often)
        if pair is not None:
            one, other = pair
            power = raised(prime, often)
            # By what is left of the base both are the same.
            apart_from = base // power
            return one, merged((one % apart_from, apart_from), (other, power))[0]
    return None


def _pair_by_power(terms, prime, often):
    """As `colliding_pair`, by a power of a prime; both are rests by it."""
    if often > 1:
        leans = table_of(slope_of(terms), prime)
        if 0 in leans:
            # What is a step of one power less away makes no difference there.
            return leans.index(0), leans.index(0) + raised(prime, often - 1)
    led_from = {}
    for number, rest in enumerate(table_of(terms, prime)):
        if rest in led_from:
            return led_from[rest], _lifted(terms, led_from[rest], number, prime, often)
        led_from[rest] = number
    return None


def _lifted(terms, one, other, prime, often):
    """The rest that leaves the other one by the prime, and at which the sum leaves what it leaves at the one.

    By the prime alone it does so already; else its slope is at no rest divided by the prime.
    """
    if often == 1:
        return other
    between = difference(terms, (value_at(terms, one),))
    return [rest for rest, _ in zero_facts(between, prime, often) if rest % prime == other][0]

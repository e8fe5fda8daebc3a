"""By what the lights of lamps come round; nothing is checked here.

The least common multiple of all bases is such a number, but it may be too
great to be taken apart, and the least one may still be small: lights fall
together where lamps are lit together. So only those of its primes are looked
at that a small one can have.
"""

from restworld.lighting import is_lit_along, without_contained
from restworld.merging import common_base


def light_round(lamps, most):
    """The least base by which the lights come round, None if it is greater than the most."""
    needed = without_contained(lamps)
    primes = _small_primes(common_base(needed), most)
    base = 1
    for prime in primes:
        base *= prime
    if not _comes_round(needed, base):
        return None
    for prime in primes:
        if _comes_round(needed, base // prime):
            base //= prime
    return base if base <= most else None


def _small_primes(number, most):
    """The primes of the number, each as often as it divides both the number and an integer up to the most."""
    found = []
    left = number
    for divisor in range(2, most + 1):
        power = divisor
        while left % divisor == 0:
            left //= divisor
            if power <= most:
                found.append(divisor)
            power *= divisor
    return found


def _comes_round(lamps, step):
    """Whether each number that is greater by the step than one where a lamp is lit is lit, too."""
    for rest, base in lamps:
        if not is_lit_along(lamps, ((rest + step) % base, base)):
            return False
    return True

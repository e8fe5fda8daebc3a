"""Papers that show what makes an integer; nothing is believed of them."""

from restworld.arithmetic import raised, times_in
from restworld.checks import is_integer, is_within
from restworld.limits import MOST_BASE
from restworld.numbers import is_prime


def is_apart(paper, number):
    """Whether it is the ascending tuple of pairs (prime, how often) that makes the number, which is any integer."""
    if number < 1 or not isinstance(paper, tuple):
        return False
    left = number
    least = 2
    for part in paper:
        if not are_integers(part, 2):
            return False
        prime, often = part
        # That it divides is asked first, as how often it is told to do so may be anything.
        if not is_within(prime, least, MOST_BASE) or left % prime or times_in(left, prime) != often:
            return False
        if not is_prime(prime):
            return False
        left //= raised(prime, often)
        least = prime + 1
    return left == 1


def are_integers(given, many):
    """Whether it is a tuple of so many integers."""
    return isinstance(given, tuple) and len(given) == many and all([is_integer(one) for one in given])

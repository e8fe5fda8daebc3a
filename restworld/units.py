"""The open rests by a base, and how powers of numbers come round; nothing is checked here but bases, by `apart`."""

from math import gcd, lcm

from restworld.arithmetic import raised, raised_by
from restworld.numbers import apart


def cycles(base):
    """The numbers of elements of circles; multiplying open rests goes as stepping on in all of them."""
    found = []
    for prime, often in apart(base):
        if prime == 2 and often > 2:
            found.append(2)
            found.append(raised(2, often - 2))
        else:
            found.append((prime - 1) * raised(prime, often - 1))
    return found


def common_length(base):
    """The least common multiple of the orders of all open numbers."""
    length = 1
    for many in cycles(base):
        length = lcm(length, many)
    return length


def order_of(number, base):
    """The least k from 1 on for which number ** k leaves the rest of 1; the number is open."""
    length = common_length(base)
    least = length
    for prime, often in apart(length):
        for _ in range(often):
            if raised_by(number, least // prime, base) != 1 % base:
                break
            least //= prime
    return least


def split(number, base):
    """The base as a product: what primes of the number make of it, and what is open to the number."""
    closed, left = 1, base
    shared = gcd(number, left)
    while shared > 1:
        closed *= shared
        left //= shared
        shared = gcd(number, left)
    return closed, left


def tail_of(number, base):
    """From which power of the number on all that the base shares with it divides the power."""
    closed, _ = split(number, base)
    tail = 0
    while raised_by(number, tail, closed):
        tail += 1
    return tail

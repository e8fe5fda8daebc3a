"""Zeros by the powers of a prime, followed from each power to the next one; nothing is checked here.

A branch of a sum is what the sum makes of all numbers rest + y * prime ** power,
as a sum of y. What the prime divides in all of its coefficients is divided out.
"""

from restworld.arithmetic import times_in
from restworld.coefficients import led_through, rest_at, trimmed


def held_in(terms, prime):
    """How often the prime divides all coefficients, which are not all 0."""
    return min([times_in(coefficient, prime) for coefficient in terms if coefficient])


def divided_out(terms, prime, often):
    """The coefficients, divided by the prime so often."""
    for _ in range(often):
        terms = [coefficient // prime for coefficient in terms]
    return tuple(terms)


def led_on(terms, rest, prime):
    """What the sum makes of rest + y * prime, as a sum of y."""
    return led_through(terms, (rest, prime))


def reduced(terms, prime):
    """The rests of the coefficients, without 0s at the end."""
    return trimmed([coefficient % prime for coefficient in terms])


def zeros_by_prime(terms, prime):
    """The rests by the prime at which the sum is zero."""
    rests = reduced(terms, prime)
    return [number for number in range(prime) if rest_at(rests, number, prime) == 0]


def zero_facts(terms, prime, often):
    """Facts whose bases are powers of the prime: just the numbers that fit one are zeros by prime ** often."""
    if not any(terms):
        return [(0, 1)]
    found = []
    waiting = [(terms, 0, 1, 0)]
    while waiting:
        branch, rest, base, known = waiting.pop()
        held = held_in(branch, prime)
        if known + held >= often:
            found.append((rest, base))
            continue
        branch = divided_out(branch, prime, held)
        for number in zeros_by_prime(branch, prime):
            waiting.append((led_on(branch, number, prime), rest + number * base, base * prime, known + held))
    return found

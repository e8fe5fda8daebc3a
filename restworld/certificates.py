"""Claims for the checker, each with a paper that shows it."""

from math import gcd

from restworld.arithmetic import raised, raised_by, times_in
from restworld.bit_rows import bits_of, least_by_rest
from restworld.checks import (
    check_lamps, check_number, check_prime, check_sum, check_sum_not_nought, check_within, is_within,
)
from restworld.colliding import colliding_pair
from restworld.endless import count_by_power
from restworld.errors import InvalidValues, NotOpen
from restworld.facts import joined, quarrels
from restworld.functions import first_unlike
from restworld.hidden import count_left
from restworld.lighting import first_dark
from restworld.limits import MOST_NUMBER
from restworld.numbers import apart
from restworld.powers import count_open, leader, order
from restworld.runs import entry, tail_and_round_of
from restworld.spread import Spread
from restworld.units import common_length
from restworld.walks import primes_around
from restworld.zeros import whole_zeros

MOST_ENDLESS = 60
MOST_COIN = 1000
MOST_COINS = 8


def certify_joined(facts):
    """What fact they make, or that two quarrel."""
    for pair in quarrels(facts):
        return ("quarrel", facts), pair
    rest, base = joined(facts)
    return ("joined", facts, rest, base), ()


def certify_covers(lamps):
    """That they cover, or that they do not."""
    check_lamps(lamps)
    dark = first_dark(lamps, 0)
    if dark is None:
        return ("covers", lamps), ()
    return ("not covering", lamps), dark


def certify_same(one, other, base):
    """That both are the same by the base, or that they are not."""
    number = first_unlike(one, other, base)
    if number is None:
        return ("same", one, other, base), ()
    return ("unlike", one, other, base), number


def certify_turns(terms, base):
    """That the sum turns the rests by the base, or that it does not."""
    check_sum(terms)
    pair = colliding_pair(terms, base)
    if pair is None:
        return ("turns", terms, base), ()
    return ("not turning", terms, base), pair


def certify_zeros(terms, prime, often):
    """How many zeros there are by the prime to this power."""
    many = count_by_power(terms, prime, often)
    return ("zeros", terms, prime, often, many), ()


def certify_endless(terms, prime, often):
    """The rest of the first endless zero that is not manifold, or is an integer, None if there is none."""
    check_sum_not_nought(terms)
    check_prime(prime)
    check_within(often, 1, MOST_ENDLESS)
    power = raised(prime, often)
    shown = [(number % power, number) for number in whole_zeros(terms)]
    for ending in Spread(terms, prime).endings:
        if ending.manifold == 1:
            # So near to it the value is divided as often as the depth tells, and once more for each further power.
            near = ending.rest_by(prime, max(often, ending.depth + 1))
            shown.append((near % power, near))
    if not shown:
        return None
    rest, number = min(shown)
    return ("endless", terms, prime, often, rest), number


def certify_order(number, base):
    """The order of the number by the base."""
    many = order(number, base)
    return ("order", number, base, many), apart(many)


def certify_leader(base):
    """A leader of the base, None if there is none."""
    number = leader(base)
    if number is None:
        return None
    return ("leader", number, base), (apart(base), apart(count_open(base)))


def certify_no_root(number, power, base):
    """That nothing to this power leaves the rest of the number, None if something does."""
    check_number(number)
    check_within(power, 1, MOST_NUMBER)
    pairs = apart(base)
    if gcd(number, base) != 1:
        raise NotOpen(number)
    for prime, often in pairs:
        # By 4 the powers of numbers tell what is not told by all of a greater power of 2.
        for part in (raised(prime, min(often, 2)), raised(prime, often)):
            length = common_length(part)
            times = length // gcd(length, power)
            if raised_by(number, times, part) != 1:
                return ("no root", number, power, base), (part, times)
    return None


def certify_round(run, base):
    """The tail and the round of the run by the base."""
    tail, many = tail_and_round_of(run, base)
    return ("round", run, base, tail, many), _apart_around(many, base)


def certify_entry(first, second, base):
    """The entry of the base in the first run of both."""
    index = entry(first, second, base)
    return ("entry", first, second, base, index), _apart_around(index, base)


def certify_gap(values):
    """The greatest gap of these numbers, None if there is none."""
    _check_coins(values)
    least = values[0]
    reached = least_by_rest(1, bits_of(values), least)
    if least == 1 or len(reached) < least:
        return None
    return ("gap", values, max(list(reached.values())) - least), _taken_for_each(values, reached)


def certify_left(asks, low, high):
    """How many numbers from low to high are left."""
    return ("left", asks, low, high, count_left(asks, low, high)), ()


def _apart_around(number, base):
    """What makes the number, whose primes are near to those of the base."""
    primes = sorted(set([near for prime, _ in apart(base) for near in primes_around(prime)]))
    return tuple([(prime, times_in(number, prime)) for prime in primes if number % prime == 0])


def _check_coins(values):
    if not isinstance(values, tuple) or not values:
        raise InvalidValues(None)
    least = 1
    for index, coin in enumerate(values):
        if index >= MOST_COINS or not is_within(coin, least, MOST_COIN):
            raise InvalidValues(index)
        least = coin + 1


def _taken_for_each(coins, reached):
    """For each rest by the least coin how often each coin is taken for the least number that leaves it."""
    least = coins[0]
    taken = {0: (0,) * len(coins)}
    for number in sorted(list(reached.values())):
        for at, coin in enumerate(coins):
            before = number - coin
            if number % least not in taken and reached[before % least] == before:
                often = taken[before % least]
                taken[number % least] = often[:at] + (often[at] + 1,) + often[at + 1:]
    return tuple([taken[rest] for rest in range(least)])

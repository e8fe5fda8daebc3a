"""Runs: rows of which each value is made of the two before it."""

from math import gcd, lcm

from restworld.arithmetic import raised, times_in
from restworld.checks import (
    MOST_OF_RUN, check_base, check_index, check_prime, check_run, check_within, is_within,
)
from restworld.errors import InvalidIndex, NotOpen, TooGreat, TooMany
from restworld.limits import MOST_FACT, MOST_LISTED
from restworld.numbers import apart
from restworld.walks import many_steps, next_round, pair_at, primes_around, step_of, stepped, sum_of_pairs

MOST_SHOWN_INDEX = 500
MOST_RUN_PRIME = 10 ** 6
# A run of integers that ever comes again does so within so many values.
ALL_ROUNDS = 6


def at(run, index):
    """The value with this index."""
    check_run(run)
    _check_shown(index)
    return _first_values(run, index + 1)[index]


def rest_at(run, index, base):
    """The rest of the value with this index."""
    _check_far(run, index, base)
    return pair_at(run, index, base)[0]


def sum_rest(run, index, base):
    """The rest of the sum of the values up to this index."""
    _check_far(run, index, base)
    return sum_of_pairs(run, index + 1, base)[0]


def tail_and_round_of(run, base):
    """The pair (t, r) of the run by the base."""
    check_run(run)
    return _tail_and_round(run, _apart_in_walked(base))


def growth(run, prime):
    """The first rounds by the powers of the prime, and by what each later one is greater: the prime or 1."""
    check_run(run)
    check_prime(prime)
    if run[1] % prime == 0:
        raise NotOpen(run[1])
    recurring = _whole_round(run)
    if recurring is not None:
        return _rounds_up_to(run, prime, recurring), 1
    return _rounds_until_growing(run, prime), prime


def entry(first, second, base):
    """The least index from 1 on whose value in the first run of both the base divides."""
    _check_of_run(first)
    _check_of_run(second)
    check_base(base)
    if gcd(second, base) != 1:
        raise NotOpen(second)
    least = 1
    for prime, often in _apart_in_walked(base):
        least = lcm(least, _entry_by_power((first, second, 0, 1), prime, often))
    return least


def common_value(first, second, index, other):
    """The greatest integer that divides the values with both indexes in the first run, 0 if both are 0."""
    _check_of_run(first)
    _check_of_run(second)
    _check_shown(index)
    _check_shown(other)
    values = _first_values((first, second, 0, 1), max(index, other) + 1)
    return gcd(values[index], values[other])


def shown_rests(run, base):
    """The rests that the values leave, ascending."""
    _, rests = tail_and_rests(run, base)
    return tuple(sorted(set(rests)))


def tail_and_rests(run, base):
    """A pair: the tail, and a list of the rests of the values until they come round; errors as for `shown_rests`."""
    tail, many = tail_and_round_of(run, base)
    if tail + many > MOST_LISTED:
        raise TooMany(MOST_LISTED)
    step = step_of(run)
    pair = pair_at(run, 0, base)
    rests = []
    for _ in range(tail + many):
        rests.append(pair[0])
        pair = stepped(step, pair, base)
    return tail, rests


def _check_of_run(given):
    check_within(given, -MOST_OF_RUN, MOST_OF_RUN)


def _check_shown(index):
    if not is_within(index, 0, MOST_SHOWN_INDEX):
        raise InvalidIndex(index)


def _check_far(run, index, base):
    check_run(run)
    check_index(index)
    check_within(base, 1, MOST_FACT)


def _apart_in_walked(base):
    pairs = apart(base)
    if pairs and pairs[-1][0] > MOST_RUN_PRIME:
        raise TooGreat(pairs[-1][0])
    return pairs


def _first_values(run, many):
    """The first values, two at least."""
    a, b, x, y = run
    values = [x, y]
    while len(values) < many:
        values.append(a * values[-1] + b * values[-2])
    return values


def _tail_and_round(run, pairs):
    tail, many = 0, 1
    for prime, often in pairs:
        its_tail, its_round = _tail_and_round_by_power(run, prime, often)
        tail = max(tail, its_tail)
        many = lcm(many, its_round)
    return tail, many


def _tail_and_round_by_power(run, prime, often):
    """Where b is divided by the prime, two steps for each power of it are enough to come to the round."""
    base = raised(prime, often)
    step = step_of(run)
    late = pair_at(run, 2 * often if run[1] % prime == 0 else 0, base)
    many = 1
    for power in range(1, often + 1):
        many = next_round(step, late, prime, power, many)
    once_round = many_steps(step, many, base)
    tail = 0
    pair = pair_at(run, 0, base)
    while stepped(once_round, pair, base) != pair:
        pair = stepped(step, pair, base)
        tail += 1
    return tail, many


def _whole_round(run):
    """After how many values the run itself comes again, None if it never does; b is not 0."""
    values = _first_values(run, ALL_ROUNDS + 2)
    for many in range(1, ALL_ROUNDS + 1):
        if values[many] == run[2] and values[many + 1] == run[3]:
            return many
    return None


def _rounds_up_to(run, prime, most):
    rounds = []
    many = 1
    while not rounds or many < most:
        many = next_round(step_of(run), run[2:], prime, len(rounds) + 1, many)
        rounds.append(many)
    return tuple(rounds)


def _rounds_until_growing(run, prime):
    """The rounds up to the one from which on each is greater by the prime.

    What the values and the pairs that come of them leave out of all pairs is
    told by `unseen`. Two powers above it, a round that is once longer by the
    next power, is so by the prime, and by all further powers.
    """
    a, b, x, y = run
    unseen = times_in(b * x * x + a * x * y - y * y or gcd(x, y), prime)
    rounds = []
    many = 1
    while len(rounds) < unseen + 3 or rounds[-1] == rounds[-2]:
        many = next_round(step_of(run), (x, y), prime, len(rounds) + 1, many)
        rounds.append(many)
    while len(rounds) > 1 and rounds[-1] == prime * rounds[-2]:
        rounds.pop()
    return tuple(rounds)


def _entry_by_power(run, prime, often):
    base = raised(prime, often)
    least = base * (prime - 1) * (prime + 1)
    for factor in primes_around(prime):
        while least % factor == 0 and pair_at(run, least // factor, base)[0] == 0:
            least //= factor
    return least

"""A small checker: it accepts a claim if the paper shows, or reckoning alone, that it is true.

What looks at a claim gets what stands behind its word, as many elements as
there have to be, and the paper; both may be anything. It tells whether the
claim is one, is true, and the paper is one for it.
"""

from math import gcd

from restworld.arithmetic import raised, raised_by, times_in
from restworld.checks import (
    are_asks, are_facts, is_integer, is_of_run, is_run, is_small_prime, is_sum, is_within,
)
from restworld.coefficients import rest_at, slope_of, value_at
from restworld.functions import first_unlike, turns
from restworld.leaving import Leaving
from restworld.lighting import first_dark, is_lit
from restworld.limits import MOST_BASE, MOST_FACTS, MOST_LAMPS, MOST_NUMBER, MOST_OFTEN, MOST_PRIME
from restworld.merging import all_merged, are_quarrelling
from restworld.numbers import apart
from restworld.papers import are_integers, is_apart
from restworld.spread import Spread
from restworld.units import common_length
from restworld.walks import pair_at

MOST_ENDLESS = 60
MOST_COIN = 1000
MOST_COINS = 8
MOST_TAKEN = 10 ** 6


def _joined(told, paper):
    facts, rest, base = told
    if not are_facts(facts, MOST_FACTS) or not are_integers((rest, base), 2) or not _is_empty(paper):
        return False
    return all_merged(facts) == (rest, base)


def _quarrel(told, paper):
    facts = told[0]
    if not are_facts(facts, MOST_FACTS) or not are_integers(paper, 2):
        return False
    i, j = paper
    return 0 <= i < j < len(facts) and are_quarrelling(facts[i], facts[j])


def _covers(told, paper):
    lamps = told[0]
    return are_facts(lamps, MOST_LAMPS) and _is_empty(paper) and first_dark(lamps, 0) is None


def _not_covering(told, paper):
    lamps = told[0]
    return are_facts(lamps, MOST_LAMPS) and is_integer(paper) and not is_lit(lamps, paper)


def _same(told, paper):
    one, other, base = told
    return _are_sums_by(one, other, base) and _is_empty(paper) and first_unlike(one, other, base) is None


def _unlike(told, paper):
    one, other, base = told
    return _are_sums_by(one, other, base) and is_integer(paper) and (
        rest_at(one, paper, base) != rest_at(other, paper, base)
    )


def _turns(told, paper):
    terms, base = told
    if not is_sum(terms) or not _is_base(base) or not _is_empty(paper):
        return False
    return max([prime for prime, _ in apart(base)], default=1) <= MOST_PRIME and turns(terms, base)


def _not_turning(told, paper):
    terms, base = told
    if not is_sum(terms) or not _is_base(base) or not are_integers(paper, 2):
        return False
    one, other = paper
    return (one - other) % base != 0 and rest_at(terms, one, base) == rest_at(terms, other, base)


def _zeros(told, paper):
    terms, prime, often, many = told
    if not _is_not_nought(terms) or not is_small_prime(prime) or not is_within(often, 0, MOST_OFTEN):
        return False
    return is_integer(many) and _is_empty(paper) and Spread(terms, prime).count(often) == many


def _endless(told, paper):
    terms, prime, often, rest = told
    if not _is_not_nought(terms) or not is_small_prime(prime) or not is_within(often, 1, MOST_ENDLESS):
        return False
    power = raised(prime, often)
    if not is_within(rest, 0, power - 1) or not is_integer(paper) or paper % power != rest:
        return False
    worth, lean = value_at(terms, paper), value_at(slope_of(terms), paper)
    if worth == 0 or lean == 0:
        return worth == 0
    # A number that is so much nearer to a zero than the slope is to 0 leads on to just one endless zero.
    i, j = times_in(worth, prime), times_in(lean, prime)
    return i - j >= often and i > 2 * j


def _order(told, paper):
    number, base, many = told
    if not _is_number(number) or not _is_base(base) or not _is_count(many) or not is_apart(paper, many):
        return False
    if raised_by(number, many, base) != 1 % base:
        return False
    return all([raised_by(number, many // prime, base) != 1 % base for prime, _ in paper])


def _leader(told, paper):
    number, base = told
    if not _is_number(number) or not _is_base(base) or not isinstance(paper, tuple) or len(paper) != 2:
        return False
    if not is_apart(paper[0], base):
        return False
    many = base
    for prime, _ in paper[0]:
        many = many // prime * (prime - 1)
    return _order((number, base, many), paper[1])


def _no_root(told, paper):
    number, power, base = told
    if not _is_number(number) or not is_within(power, 1, MOST_NUMBER) or not _is_base(base):
        return False
    if gcd(number, base) != 1 or not are_integers(paper, 2):
        return False
    part, times = paper
    if times < 1 or part < 2 or base % part or len(apart(part)) != 1:
        return False
    # A root to the power of times * power would leave the rest of 1 by the part, so the number to that of times, too.
    return times * power % common_length(part) == 0 and raised_by(number, times, part) != 1


def _round(told, paper):
    run, base, tail, many = told
    if not is_run(run) or not _is_base(base) or not are_integers((tail, many), 2):
        return False
    if tail < 0 or not is_apart(paper, many):
        return False
    begin = pair_at(run, tail, base)
    if pair_at(run, tail + many, base) != begin:
        return False
    if tail > 0 and pair_at(run, tail - 1 + many, base) == pair_at(run, tail - 1, base):
        return False
    return all([pair_at(run, tail + many // prime, base) != begin for prime, _ in paper])


def _entry(told, paper):
    first, second, base, index = told
    if not is_of_run(first) or not is_of_run(second) or not _is_base(base) or gcd(second, base) != 1:
        return False
    if not _is_count(index) or not is_apart(paper, index):
        return False
    run = (first, second, 0, 1)
    # The base divides just the values whose indexes the entry divides.
    if pair_at(run, index, base)[0] != 0:
        return False
    return all([pair_at(run, index // prime, base)[0] != 0 for prime, _ in paper])


def _gap(told, paper):
    coins, gap = told
    if not _are_coins(coins) or not _is_count(gap) or not isinstance(paper, tuple) or len(paper) != coins[0]:
        return False
    least = coins[0]
    reached = []
    for rest, taken in enumerate(paper):
        if not are_integers(taken, len(coins)) or not all([0 <= often <= MOST_TAKEN for often in taken]):
            return False
        reached.append(sum([often * coin for often, coin in zip(taken, coins)]))
        if reached[rest] % least != rest:
            return False
    if reached[0] != 0:
        return False
    for number in reached:
        for coin in coins:
            if number + coin < reached[(number + coin) % least]:
                return False
    return max(reached) - least == gap


def _left(told, paper):
    asks, low, high, many = told
    if not are_asks(asks) or not _is_number(low) or not _is_number(high) or high < low:
        return False
    return is_integer(many) and _is_empty(paper) and Leaving(asks, low, high).many() == many


MANY_TOLD = {
    "joined": 3, "quarrel": 1, "covers": 1, "not covering": 1, "same": 3, "unlike": 3, "turns": 2, "not turning": 2,
    "zeros": 4, "endless": 4, "order": 3, "leader": 2, "no root": 3, "round": 4, "entry": 4, "gap": 2, "left": 4,
}
LOOKS = {
    "joined": _joined, "quarrel": _quarrel, "covers": _covers, "not covering": _not_covering, "same": _same,
    "unlike": _unlike, "turns": _turns, "not turning": _not_turning, "zeros": _zeros, "endless": _endless,
    "order": _order, "leader": _leader, "no root": _no_root, "round": _round, "entry": _entry, "gap": _gap,
    "left": _left,
}


def accepts(claim, paper):
    """Whether it is a claim, it is true, and the paper is one for it."""
    if not isinstance(claim, tuple) or not claim or not isinstance(claim[0], str) or claim[0] not in LOOKS:
        return False
    if len(claim) != 1 + MANY_TOLD[claim[0]]:
        return False
    look = LOOKS[claim[0]]
    return look(claim[1:], paper)


def _is_empty(paper):
    return isinstance(paper, tuple) and len(paper) == 0


def _is_base(given):
    return is_within(given, 1, MOST_BASE)


def _is_number(given):
    return is_within(given, -MOST_NUMBER, MOST_NUMBER)


def _is_count(given):
    return is_within(given, 0, MOST_NUMBER)


def _is_not_nought(given):
    return is_sum(given) and given != (0,)


def _are_sums_by(one, other, base):
    return is_sum(one) and is_sum(other) and _is_base(base)


def _are_coins(given):
    if not isinstance(given, tuple) or not 1 <= len(given) <= MOST_COINS:
        return False
    least = 1
    for coin in given:
        if not is_within(coin, least, MOST_COIN):
            return False
        least = coin + 1
    return True

"""Bases that nobody shows: what pairs, rows and tables of rests tell of what made them."""

from math import gcd, perm

from restworld.arithmetic import raised
from restworld.checks import check_number, check_within, is_within
from restworld.errors import InvalidPairs, InvalidValues, TooGreat, TooMany
from restworld.functions import check_table
from restworld.limits import MOST_FACTS, MOST_LISTED
from restworld.numbers import apart, least_product
from restworld.tables import ranges_of

MOST_IN_PAIR = 10 ** 30
MOST_BASE_OF_PAIRS = 10 ** 6
MOST_VALUES = 40
MOST_VALUE = 199
MOST_BASE_OF_MAKER = 200
MOST_BASE_THROUGH = 12


def bases_for(pairs, factor, more, most):
    """The bases up to the most by which, for each pair (x, y), y is the rest of factor * x + more, ascending."""
    _check_pairs(pairs)
    check_number(factor)
    check_number(more)
    check_within(most, 1, MOST_BASE_OF_PAIRS)
    divided = 0
    for x, y in pairs:
        divided = gcd(divided, factor * x + more - y)
    least = max([y for _, y in pairs]) + 1
    found = tuple([base for base in range(least, most + 1) if divided % base == 0])
    if len(found) > MOST_LISTED:
        raise TooMany(MOST_LISTED)
    return found


def makers(values, most):
    """All makers (a, b, n) of the row of values with n up to the most, ascending."""
    found = _all_makers(values, most)
    if len(found) > MOST_LISTED:
        raise TooMany(MOST_LISTED)
    return tuple(sorted(found))


def next_of(values, most):
    """The number that all makers of the row tell as the next one, None if they differ or there are none."""
    told = set([(a * values[-1] + b) % n for a, b, n in _all_makers(values, most)])
    return sorted(told)[0] if len(told) == 1 else None


def sums_through(values, base):
    """How many sums there are, of which no two are the same, that leave these rests at 0, 1 and so on, None for any."""
    check_table(values, base, True)
    if base > MOST_BASE_THROUGH:
        raise TooGreat(base)
    many = 1
    for prime, often in apart(base):
        many *= _count_through(values, prime, often)
    return many


def _check_pairs(pairs):
    if not isinstance(pairs, tuple) or not pairs:
        raise InvalidPairs(None)
    for index, pair in enumerate(pairs):
        if index >= MOST_FACTS or not _is_pair(pair):
            raise InvalidPairs(index)


def _is_pair(given):
    return isinstance(given, tuple) and len(given) == 2 and all([is_within(one, 0, MOST_IN_PAIR) for one in given])


def _all_makers(values, most):
    """All makers, by their bases; both arguments are checked here."""
    if not isinstance(values, tuple) or not 2 <= len(values) <= MOST_VALUES:
        raise InvalidValues(None)
    for index, number in enumerate(values):
        if not is_within(number, 0, MOST_VALUE):
            raise InvalidValues(index)
    check_within(most, 1, MOST_BASE_OF_MAKER)
    found = []
    for base in range(max(values) + 1, most + 1):
        for factor in range(base):
            # The first two values leave no choice of what is added.
            more = (values[1] - factor * values[0]) % base
            if _is_made(values, factor, more, base):
                found.append((factor, more, base))
    return found


def _is_made(values, factor, more, base):
    for at in range(2, len(values)):
        if (factor * values[at - 1] + more) % base != values[at]:
            return False
    return True


def _count_through(values, prime, often):
    """How many sums there are by the power of the prime, which the base has so often."""
    base = raised(prime, often)
    told = _told_by(values, base)
    if told is None:
        return 0
    if often == 1:
        # By a prime each table is one of a sum.
        return raised(prime, told.count(None))
    return len([table for table in _tables(told, base) if _is_through(table, told)])


def _told_by(values, base):
    """The values at the rests by a part of the base, None if two of them quarrel there."""
    told = [None] * base
    for number, rest in enumerate(values):
        if rest is not None:
            before = told[number % base]
            if before is not None and before != rest % base:
                return None
            told[number % base] = rest % base
    return told


def _tables(told, base):
    """The tables of all least forms by the base that go through the first told rests, as many as a form has steps."""
    tables = [[0] * base]
    for k, most in enumerate(ranges_of(base, least_product(base))):
        column = [perm(number, k) for number in range(base)]
        further = [
            [(rest + step * factor) % base for rest, factor in zip(table, column)]
            for table in tables for step in range(most)
        ]
        # Steps behind this one change nothing at the number k any more.
        tables = [table for table in further if told[k] is None or table[k] == told[k]]
    return tables


def _is_through(table, told):
    for rest, wanted in zip(table, told):
        if wanted is not None and rest != wanted:
            return False
    return True

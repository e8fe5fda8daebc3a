"""Numbers reckoned with as rows of their rests."""

from math import gcd

from restworld.checks import check_base, check_number, check_within, is_within
from restworld.errors import InvalidBases, InvalidRests, NoNumber, NotOpen, TooMany
from restworld.limits import MOST_NUMBER
from restworld.merging import all_merged, count_between, least_from
from restworld.subsets import most_fitted

MOST_ROW_BASES = 12
MOST_ROW_BASE = 10 ** 6
MOST_MENDED = 1000


def reach(bases):
    """The product of the bases."""
    _check_bases(bases)
    return _product(bases)


def row_of(bases, number):
    """The row of the number."""
    _check_bases(bases)
    check_number(number)
    return _row(bases, number)


def number_of(bases, row):
    """The number from 0 to one less than the reach that has this row."""
    _check_bases(bases)
    _check_row(bases, row)
    return _number(bases, row)


def added(bases, one, other):
    """The row of the sum of both numbers."""
    _check_two_rows(bases, one, other)
    return tuple([(x + y) % base for base, x, y in zip(bases, one, other)])


def taken(bases, one, other):
    """The row of the one number less the other one."""
    _check_two_rows(bases, one, other)
    return tuple([(x - y) % base for base, x, y in zip(bases, one, other)])


def multiplied(bases, one, other):
    """The row of the product of both numbers."""
    _check_two_rows(bases, one, other)
    return tuple([x * y % base for base, x, y in zip(bases, one, other)])


def places(bases, row):
    """The integers d0, d1, .. for which the row's number is d0 + d1 * b0 + d2 * b0 * b1 and so on."""
    _check_bases(bases)
    _check_row(bases, row)
    left = _number(bases, row)
    digits = []
    for base in bases:
        digits.append(left % base)
        left //= base
    return tuple(digits)


def compared(bases, one, other):
    """-1, 0 or 1, as the number of the one is less, the same, or greater."""
    _check_two_rows(bases, one, other)
    first = _number(bases, one)
    second = _number(bases, other)
    if first == second:
        return 0
    return -1 if first < second else 1


def is_over(bases, one, other):
    """Whether the sum of both numbers is the reach or more."""
    _check_two_rows(bases, one, other)
    return _number(bases, one) + _number(bases, other) >= _product(bases)


def rest_of(bases, row, base):
    """The rest of the row's number by a base."""
    _check_bases(bases)
    _check_row(bases, row)
    check_base(base)
    return _number(bases, row) % base


def divided(bases, row, number):
    """The row of the row's number divided by a number."""
    _check_bases(bases)
    _check_row(bases, row)
    check_within(number, 1, MOST_NUMBER)
    if gcd(number, _product(bases)) > 1:
        raise NotOpen(number)
    whole = _number(bases, row)
    if whole % number:
        raise NoNumber()
    return _row(bases, whole // number)


def mended(bases, row, bound):
    """A pair: in how few places the row of a number below the bound is unlike this row, and all such numbers."""
    _check_bases(bases)
    _check_row(bases, row)
    check_within(bound, 1, _product(bases))
    alike, joins = most_fitted(tuple(zip(row, bases)), 0, bound - 1)
    if sum([count_between(join, 0, bound - 1) for join in joins]) > MOST_MENDED:
        raise TooMany(MOST_MENDED)
    numbers = [number for join in joins for number in range(least_from(join, 0), bound, join[1])]
    return len(bases) - alike, tuple(sorted(numbers))


def _check_bases(bases):
    if not isinstance(bases, tuple) or not bases:
        raise InvalidBases(None)
    ahead = 1
    for index, base in enumerate(bases):
        if index >= MOST_ROW_BASES or not is_within(base, 2, MOST_ROW_BASE) or gcd(base, ahead) > 1:
            raise InvalidBases(index)
        ahead *= base


def _check_row(bases, row):
    if not isinstance(row, tuple) or len(row) != len(bases):
        raise InvalidRests(None)
    for index, base in enumerate(bases):
        if not is_within(row[index], 0, base - 1):
            raise InvalidRests(index)


def _check_two_rows(bases, one, other):
    _check_bases(bases)
    _check_row(bases, one)
    _check_row(bases, other)


def _product(bases):
    product = 1
    for base in bases:
        product *= base
    return product


def _row(bases, number):
    return tuple([number % base for base in bases])


def _number(bases, row):
    return all_merged(list(zip(row, bases)))[0]

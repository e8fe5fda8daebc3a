"""Sums as functions of the rests by a base: which are the same, and which turn the rests."""

from math import factorial

from restworld.arithmetic import raised
from restworld.checks import check_base, check_sum, is_within
from restworld.coefficients import difference, rest_at, slope_of
from restworld.errors import InvalidRests, NotTurning, TooGreat
from restworld.numbers import apart, least_product
from restworld.small_primes import apart_in_small
from restworld.tables import form_of_rests, form_of_sum, ranges_of, table_of

MOST_TABLE = 1000
MOST_LEAST_NOTHING = 1000


def same(one, other, base):
    """Whether both sums leave the same rest at every number."""
    return first_unlike(one, other, base) is None


def first_unlike(one, other, base):
    """The least number from 0 on at which both leave unlike rests, None if there is none."""
    check_sum(one)
    check_sum(other)
    check_base(base)
    between = difference(one, other)
    # The steps are told by as many values as there are, so further numbers tell nothing new.
    for number in range(len(between)):
        if rest_at(between, number, base):
            return number
    return None


def least_form(terms, base):
    """The least form of the sum."""
    check_sum(terms)
    check_base(base)
    return form_of_sum(terms, base)


def how_many(base):
    """How many sums there are of which no two are the same."""
    _check_counted(base)
    return _count_forms(base)


def least_nothing(base):
    """The least degree of a sum with 1 at its highest power that is the same as nought."""
    return least_product(base)


def is_table(values, base):
    """Whether some sum leaves these rests at 0, 1 and so on."""
    return form_of_table(values, base) is not None


def form_of_table(values, base):
    """The least form of the sums that leave these rests at 0, 1 and so on, None if there are none."""
    check_table(values, base, False)
    return form_of_rests(values, base)


def turns(terms, base):
    """Whether the sum leaves different rests at different rests."""
    check_sum(terms)
    for prime, often in apart_in_small(base):
        if not _turns_by_power(terms, prime, often):
            return False
    return True


def how_many_turn(base):
    """How many sums turn the rests of which no two are the same."""
    _check_counted(base)
    many = 1
    for prime, often in apart(base):
        many *= _count_turning(prime, often)
    return many


def back_form(terms, base):
    """The least form of the sums that lead each rest back from where this one leads it."""
    check_sum(terms)
    check_base(base)
    if base > MOST_TABLE:
        raise TooGreat(base)
    ahead = table_of(terms, base)
    behind = [None] * base
    for number, rest in enumerate(ahead):
        if behind[rest] is not None:
            raise NotTurning()
        behind[rest] = number
    # Turning as often as brings each rest back to itself, less once, leads back: so it is a sum.
    return form_of_rests(behind, base)


def _check_counted(base):
    if least_product(base) > MOST_LEAST_NOTHING:
        raise TooGreat(base)


def check_table(values, base, with_gaps):
    """Raises an error for what is no table of rests by the base; with gaps None may stand for any rest."""
    check_base(base)
    if base > MOST_TABLE:
        raise TooGreat(base)
    if not isinstance(values, tuple) or len(values) != base:
        raise InvalidRests(None)
    for index, rest in enumerate(values):
        if not is_within(rest, 0, base - 1) and not (with_gaps and rest is None):
            raise InvalidRests(index)


def _count_forms(base):
    many = 1
    for most in ranges_of(base, least_product(base)):
        many *= most
    return many


def _turns_by_power(terms, prime, often):
    shown = {rest: True for rest in table_of(terms, prime)}
    if len(shown) < prime:
        return False
    return often == 1 or 0 not in table_of(slope_of(terms), prime)


def _count_turning(prime, often):
    """How many turn by the power of the prime.

    Of the pairs (rests of the values, rests of the slope) by the prime there are
    all pairs of tables, each for equally many sums by a power above the first.
    """
    if often == 1:
        return factorial(prime)
    turning = factorial(prime) * raised(prime - 1, prime)
    return _count_forms(raised(prime, often)) * turning // raised(prime, 2 * prime)

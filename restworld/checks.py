"""The checks of arguments that several modules need."""

from restworld.errors import (
    InvalidFact, InvalidFacts, InvalidIndex, InvalidNumber, InvalidPrime, InvalidSum, TooGreat, TooMany,
)
from restworld.limits import (
    MOST_BASE, MOST_DEGREE, MOST_FACT, MOST_FACTS, MOST_LAMPS, MOST_NUMBER, MOST_OFTEN, MOST_PRIME, MOST_WALKED,
)

MOST_COEFFICIENT = 10 ** 12


def is_integer(given):
    """Whether it is an integer; True and False are none."""
    return isinstance(given, int) and not isinstance(given, bool)


def is_within(given, least, most):
    """Whether it is an integer from the least to the most."""
    return is_integer(given) and least <= given <= most


def check_within(given, least, most):
    """Raises InvalidNumber for what is no integer from the least to the most."""
    if not is_within(given, least, most):
        raise InvalidNumber(given)


def check_number(given):
    """Raises InvalidNumber for what is no number, in size up to the limit."""
    check_within(given, -MOST_NUMBER, MOST_NUMBER)


def check_low_high(low, high):
    """Raises InvalidNumber for the first of both that is wrong."""
    check_number(low)
    check_number(high)
    if high < low:
        raise InvalidNumber(high)


def check_base(given):
    """Raises InvalidNumber for what is no base."""
    check_within(given, 1, MOST_BASE)


def check_often(given):
    """Raises InvalidNumber for what is no power of a prime that is looked at."""
    check_within(given, 0, MOST_OFTEN)


def check_walked(base):
    """Raises TooGreat for a base with more rests than are walked through."""
    if base > MOST_WALKED:
        raise TooGreat(base)


def check_index(given):
    """Raises InvalidIndex for what is no index among endlessly many."""
    if not is_within(given, 0, MOST_NUMBER):
        raise InvalidIndex(given)


def check_prime(given):
    """Raises InvalidPrime for what is no prime up to the limit."""
    if not is_within(given, 2, MOST_PRIME):
        raise InvalidPrime(given)
    divisor = 2
    while divisor * divisor <= given:
        if given % divisor == 0:
            raise InvalidPrime(given)
        divisor += 1


def is_fact(given):
    """Whether it is a pair of a base up to the limit and a rest by it, the rest first."""
    if not isinstance(given, tuple) or len(given) != 2:
        return False
    rest, base = given
    return is_within(base, 1, MOST_FACT) and is_within(rest, 0, base - 1)


def check_fact(given):
    """Raises InvalidFact for what is no fact."""
    if not is_fact(given):
        raise InvalidFact(given)


def check_facts(facts):
    """Raises InvalidFacts for what are no facts."""
    _check_each_fact(facts, MOST_FACTS)


def check_lamps(lamps):
    """Raises InvalidFacts for what are no lamps."""
    _check_each_fact(lamps, MOST_LAMPS)


def is_sum(given):
    """Whether it is a tuple of coefficients without a needless 0 at its end."""
    if not isinstance(given, tuple) or not 1 <= len(given) <= MOST_DEGREE + 1:
        return False
    for coefficient in given:
        if not is_coefficient(coefficient):
            return False
    return given[-1] != 0 or len(given) == 1


def is_coefficient(given):
    """Whether it is an integer, in size up to the limit of sums."""
    return is_within(given, -MOST_COEFFICIENT, MOST_COEFFICIENT)


def check_sum(given):
    """Raises InvalidSum for what is no sum."""
    if not is_sum(given):
        raise InvalidSum(given)


def check_sum_not_nought(given):
    """Raises InvalidSum for what is no sum, and for the one that is nought."""
    if not is_sum(given) or given == (0,):
        raise InvalidSum(given)


def check_few_facts(facts):
    """Raises TooMany for more facts than sets of them can be walked through."""
    if len(facts) > MOST_LAMPS:
        raise TooMany(MOST_LAMPS)


def _check_each_fact(facts, most):
    if not isinstance(facts, tuple):
        raise InvalidFacts(None)
    for index, fact in enumerate(facts):
        if index >= most or not is_fact(fact):
            raise InvalidFacts(index)

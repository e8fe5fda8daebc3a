"""The checks of arguments that several modules need."""

from restworld.errors import (
    InvalidAsks, InvalidFact, InvalidFacts, InvalidIndex, InvalidNumber, InvalidPrime, InvalidRun, InvalidSum, TooGreat,
    TooMany,
)
from restworld.limits import (
    MOST_BASE, MOST_DEGREE, MOST_FACT, MOST_FACTS, MOST_LAMPS, MOST_NUMBER, MOST_OFTEN, MOST_PRIME, MOST_WALKED,
)

MOST_COEFFICIENT = 10 ** 12
MOST_OF_RUN = 10 ** 9


def is_integer(given):
    """Whether it is an integer; True and False are none."""
    return isinstance(given, int) and not isinstance(given, bool)


def is_within(given, least, most):
    """Whether it is an integer from the least to the most."""
    return is_integer(given) and least <= given <= most


def check_within(given, least, most):
    """Raises InvalidNumber for what is no integer from the least to the most."""
    if not is_within(given, least, most):
        raise InvalidNumber(given)


def check_number(given):
    """Raises InvalidNumber for what is no number, in size up to the limit."""
    check_within(given, -MOST_NUMBER, MOST_NUMBER)


def check_low_high(low, high):
    """Raises InvalidNumber for the first of both that is wrong."""
    check_number(low)
    check_number(high)
    if high < low:
        raise InvalidNumber(high)


def check_base(given):
    """Raises InvalidNumber for what is no base."""
    check_within(given, 1, MOST_BASE)


def check_often(given):
    """Raises InvalidNumber for what is no power of a prime that is looked at."""
    check_within(given, 0, MOST_OFTEN)


def check_walked(base):
    """Raises TooGreat for a base with more rests than are walked through."""
    if base > MOST_WALKED:
        raise TooGreat(base)


def check_index(given):
    """Raises InvalidIndex for what is no index among endlessly many."""
    if not is_within(given, 0, MOST_NUMBER):
        raise InvalidIndex(given)


def is_small_prime(given):
    """Whether it is a prime up to the limit."""
    if not is_within(given, 2, MOST_PRIME):
        return False
    divisor = 2
    while divisor * divisor <= given:
        if given % divisor == 0:
            return False
        divisor += 1
    return True


def check_prime(given):
    """Raises InvalidPrime for what is no prime up to the limit."""
    if not is_small_prime(given):
        raise InvalidPrime(given)


def is_fact(given):
    """Whether it is a pair of a base up to the limit and a rest by it, the rest first."""
    if not isinstance(given, tuple) or len(given) != 2:
        return False
    rest, base = given
    return is_within(base, 1, MOST_FACT) and is_within(rest, 0, base - 1)


def check_fact(given):
    """Raises InvalidFact for what is no fact."""
    if not is_fact(given):
        raise InvalidFact(given)


def are_facts(given, most):
    """Whether it is a tuple of facts, not more than the most."""
    return isinstance(given, tuple) and _first_wrong_fact(given, most) is None


def check_facts(facts):
    """Raises InvalidFacts for what are no facts."""
    _check_each_fact(facts, MOST_FACTS)


def check_lamps(lamps):
    """Raises InvalidFacts for what are no lamps."""
    _check_each_fact(lamps, MOST_LAMPS)


def are_asks(given):
    """Whether it is a tuple of asks, with not too many in all, nor of those that are False."""
    return isinstance(given, tuple) and _first_wrong_ask(given) is None


def check_asks(asks):
    """Raises InvalidAsks for what are no asks."""
    if not isinstance(asks, tuple):
        raise InvalidAsks(None)
    index = _first_wrong_ask(asks)
    if index is not None:
        raise InvalidAsks(index)


def is_sum(given):
    """Whether it is a tuple of coefficients without a needless 0 at its end."""
    if not isinstance(given, tuple) or not 1 <= len(given) <= MOST_DEGREE + 1:
        return False
    for coefficient in given:
        if not is_coefficient(coefficient):
            return False
    return given[-1] != 0 or len(given) == 1


def is_coefficient(given):
    """Whether it is an integer, in size up to the limit of sums."""
    return is_within(given, -MOST_COEFFICIENT, MOST_COEFFICIENT)


def check_sum(given):
    """Raises InvalidSum for what is no sum."""
    if not is_sum(given):
        raise InvalidSum(given)


def check_sum_not_nought(given):
    """Raises InvalidSum for what is no sum, and for the one that is nought."""
    if not is_sum(given) or given == (0,):
        raise InvalidSum(given)


def is_of_run(given):
    """Whether it is an integer that may stand in a run."""
    return is_within(given, -MOST_OF_RUN, MOST_OF_RUN)


def is_run(given):
    """Whether it is a tuple of four integers of a run."""
    return isinstance(given, tuple) and len(given) == 4 and all([is_of_run(one) for one in given])


def check_run(given):
    """Raises InvalidRun for what is no run."""
    if not is_run(given):
        raise InvalidRun(given)


def check_few_facts(facts):
    """Raises TooMany for more facts than sets of them can be walked through."""
    if len(facts) > MOST_LAMPS:
        raise TooMany(MOST_LAMPS)


def _check_each_fact(facts, most):
    if not isinstance(facts, tuple):
        raise InvalidFacts(None)
    index = _first_wrong_fact(facts, most)
    if index is not None:
        raise InvalidFacts(index)


def _first_wrong_fact(facts, most):
    for index, fact in enumerate(facts):
        if index >= most or not is_fact(fact):
            return index
    return None


def _first_wrong_ask(asks):
    never = 0
    for index, ask in enumerate(asks):
        if index >= MOST_FACTS or not _is_ask(ask):
            return index
        if not ask[2]:
            never += 1
        if never > MOST_LAMPS:
            return index
    return None


def _is_ask(given):
    """Whether it is a fact with True or False behind."""
    return isinstance(given, tuple) and len(given) == 3 and is_fact(given[:2]) and isinstance(given[2], bool)

"""What asks tell of a number that nobody shows."""

from restworld.checks import (
    check_asks, check_base, check_fact, check_low_high, check_within, is_integer, is_within,
)
from restworld.errors import InvalidBases, InvalidIndex, NoNumber, TooGreat
from restworld.leaving import Leaving
from restworld.limits import MOST_BASE

MOST_KNOWN_BASE = 1000
MOST_KNOWN_BASES = 12


def count_left(asks, low, high):
    """How many numbers from low to high are left."""
    _check(asks, low, high)
    return Leaving(asks, low, high).many()


def least_left(asks, low, high):
    """The least number from low to high that is left."""
    _check(asks, low, high)
    least = Leaving(asks, low, high).first_number()
    if least is None:
        raise NoNumber()
    return least


def nth_left(asks, low, high, index):
    """The number with this index among those from low to high that are left."""
    _check(asks, low, high)
    leaving = Leaving(asks, low, high)
    if not is_integer(index) or not 0 <= index < leaving.many():
        raise InvalidIndex(index)
    return leaving.number_with(index)


def verdict(asks, low, high, fact):
    """Whether the numbers that are left "surely" fit the fact, "never", or "perhaps"."""
    _check(asks, low, high)
    check_fact(fact)
    leaving = _leaving(asks, low, high)
    rest, base = fact
    fitting = Leaving(asks + ((rest, base, True),), low, high).many()
    if fitting == 0:
        return "never"
    return "surely" if fitting == leaving.many() else "perhaps"


def known_by(asks, low, high, base):
    """The rests by the base that the numbers leave which are left, ascending."""
    _check(asks, low, high)
    check_base(base)
    if base > MOST_KNOWN_BASE:
        raise TooGreat(base)
    many = _leaving(asks, low, high).by_rests(base)
    return tuple([rest for rest in range(base) if many[rest]])


def best_base(asks, low, high, bases):
    """The first base for which the greatest number of numbers left that leave one rest by it is least."""
    _check(asks, low, high)
    _check_bases(bases)
    leaving = _leaving(asks, low, high)
    greatest = [max(leaving.by_rests(base)) for base in bases]
    return bases[greatest.index(min(greatest))]


def asks_needed(low, high, base):
    """With how many rests by the base of the number, divided by its powers, each number from low to high is known."""
    check_low_high(low, high)
    check_within(base, 2, MOST_BASE)
    questions = 0
    told_apart = 1
    while told_apart < high - low + 1:
        told_apart *= base
        questions += 1
    return questions


def _check(asks, low, high):
    check_asks(asks)
    check_low_high(low, high)


def _check_bases(bases):
    if not isinstance(bases, tuple) or not bases:
        raise InvalidBases(None)
    for index, base in enumerate(bases):
        if index >= MOST_KNOWN_BASES or not is_within(base, 1, MOST_KNOWN_BASE):
            raise InvalidBases(index)


def _leaving(asks, low, high):
    """What is left, if that is any number."""
    leaving = Leaving(asks, low, high)
    if leaving.first_number() is None:
        raise NoNumber()
    return leaving

"""Circles: sets of integers from 0 on that come round."""

from math import gcd, lcm

from restworld.bit_rows import bits_of, closed_under, numbers_of
from restworld.checks import check_fact, check_index, check_within, is_integer
from restworld.circle_forms import MOST_CIRCLE, check_form, first_of_each, least_form
from restworld.errors import InvalidValues, NotACircle, TooMany
from restworld.limits import MOST_NUMBER
from restworld.making import Making

MOST_STRETCH = 1000


class Circle:
    """Some integers below the start, told one by one, and from there on all that leave one of the rests by the base.

    It is kept in its least form.
    """

    def __init__(self, early, start, base, rests):
        check_form(early, start, base, rests)
        self._early, self._start, self._base, self._rests = least_form(early, start, base, rests)
        self._is_early = {number: True for number in self._early}
        self._is_rest = {rest: True for rest in self._rests}

    @property
    def early(self):
        """The numbers below the start, ascending."""
        return self._early

    @property
    def start(self):
        """From where on the rests tell."""
        return self._start

    @property
    def base(self):
        """By what the rests are."""
        return self._base

    @property
    def rests(self):
        """The rests of the numbers from the start on, ascending."""
        return self._rests

    def __contains__(self, x):
        if not is_integer(x):
            return False
        if x < self._start:
            return x in self._is_early
        return x % self._base in self._is_rest

    def __eq__(self, other):
        return (
            isinstance(other, Circle) and self._early == other._early and self._start == other._start
            and self._base == other._base and self._rests == other._rests
        )

    def __repr__(self):
        return f"Circle by {self._base}"


def circle_of(values):
    """The circle of these integers alone."""
    if not isinstance(values, tuple):
        raise InvalidValues(None)
    for index, number in enumerate(values):
        if not is_integer(number) or not 0 <= number <= MOST_CIRCLE:
            raise InvalidValues(index)
    early = numbers_of(bits_of(values))
    return told_circle(early, max(early, default=-1) + 1, 1, ())


def fact_circle(fact):
    """All integers from 0 on that fit the fact."""
    check_fact(fact)
    rest, base = fact
    if base > MOST_CIRCLE:
        raise TooMany(MOST_CIRCLE)
    return Circle((), 0, base, (rest,))


def both(one, other):
    """The numbers that are in both."""
    start, base = _met(one, other)
    return _shown(_bits(one, start + base) & _bits(other, start + base), start, base)


def either(one, other):
    """The numbers that are in one of both at least."""
    start, base = _met(one, other)
    return _shown(_bits(one, start + base) | _bits(other, start + base), start, base)


def without(one, other):
    """The numbers that are in the one and not in the other one."""
    start, base = _met(one, other)
    return _shown(_bits(one, start + base) & ~_bits(other, start + base), start, base)


def rest_of(one):
    """The integers from 0 on that are not in it."""
    _check(one)
    early = [number for number in range(one.start) if number not in one]
    lacking = [number % one.base for number in range(one.start, one.start + one.base) if number not in one]
    return told_circle(early, one.start, one.base, sorted(lacking))


def sums(one, other):
    """All sums of a number of the one and a number of the other one."""
    _, base = _met(one, other)
    if len(one.early) + len(one.rests) > len(other.early) + len(other.rests):
        one, other = other, one
    # Behind both starts and twice the common base all is there that ever comes by their common divisor.
    start = one.start + other.start + 2 * base
    seen = _bits(other, start + base)
    total = 0
    for number in one.early:
        total |= seen << number
    endless = 0
    for number in first_of_each(one.start, one.base, one.rests):
        endless |= seen << number
    return _shown(total | closed_under(endless, one.base, start + base), start, base)


def gaps_between(one, other):
    """All integers from 0 on that are a number of the one less a number of the other one."""
    start, base = _met(one, other)
    seen = _bits(one, one.start + one.base + start + base)
    total = 0
    for number in numbers_of(_bits(other, start + base)):
        total |= seen >> number
    return _shown(total, one.start, one.base)


def stretched(one, many):
    """All numbers of it times so many."""
    _check(one)
    check_within(many, 1, MOST_STRETCH)
    early = [number * many for number in one.early]
    return told_circle(early, one.start * many, one.base * many, [rest * many for rest in one.rests])


def shrunk(one, many):
    """All numbers which, times so many, are in it."""
    _check(one)
    check_within(many, 1, MOST_STRETCH)
    start = (one.start + many - 1) // many
    base = one.base // gcd(one.base, many)
    early = [number for number in range(start) if number * many in one]
    rests = [number % base for number in range(start, start + base) if number * many in one]
    return told_circle(early, start, base, sorted(rests))


def moved(one, by):
    """All integers from 0 on that are a number of it and `by`."""
    _check(one)
    check_within(by, -MOST_CIRCLE, MOST_CIRCLE)
    early = [number + by for number in one.early if number + by >= 0]
    rests = [(rest + by) % one.base for rest in one.rests]
    return told_circle(early, max(one.start + by, 0), one.base, sorted(rests))


def is_endless(one):
    """Whether it has endlessly many numbers."""
    _check(one)
    return len(one.rests) > 0


def share(one):
    """How many of the integers it has in the long run, as a fraction."""
    _check(one)
    shared = gcd(len(one.rests), one.base)
    return len(one.rests) // shared, one.base // shared


def next_in(one, number):
    """The least number of it that is not less, None if there is none."""
    _check(one)
    check_within(number, 0, MOST_NUMBER)
    for early in one.early:
        if early >= number:
            return early
    return min(first_of_each(max(number, one.start), one.base, one.rests), default=None)


def count_below(one, number):
    """How many numbers of it are less."""
    _check(one)
    check_within(number, 0, MOST_NUMBER)
    many = len([early for early in one.early if early < number])
    for first in first_of_each(one.start, one.base, one.rests):
        if first < number:
            many += (number - 1 - first) // one.base + 1
    return many


def nth(one, index):
    """The number of it with this index, None if it has not so many."""
    _check(one)
    check_index(index)
    if index < len(one.early):
        return one.early[index]
    if not one.rests:
        return None
    times, at = divmod(index - len(one.early), len(one.rests))
    return first_of_each(one.start, one.base, one.rests)[at] + times * one.base


def is_within(one, other):
    """Whether all numbers of the one are in the other one."""
    start, base = _met(one, other)
    return _bits(one, start + base) & ~_bits(other, start + base) == 0


def first_apart(one, other):
    """The least number that is in just one of both, None if there is none."""
    start, base = _met(one, other)
    return min(numbers_of(_bits(one, start + base) ^ _bits(other, start + base)), default=None)


def made(one):
    """The circle of 0 and all sums of numbers of it."""
    making = _making(one)
    if making is None:
        return Circle((0,), 1, 1, ())
    start = max(making.greatest_missing() + 1, 0)
    if start > MOST_CIRCLE:
        raise TooMany(MOST_CIRCLE)
    return told_circle(making.made_below(start), start, making.common(), (0,))


def needed(one):
    """The numbers of it above 0 that are no sum of lesser made ones above 0, ascending."""
    making = _making(one)
    return () if making is None else tuple(making.indivisible())


def greatest_gap(one):
    """The greatest integer from 1 on that is not made, None if there is none, or there are endlessly many."""
    making = _making(one)
    if making is None or making.common() > 1 or making.greatest_missing() < 1:
        return None
    return making.greatest_missing()


def count_gaps(one):
    """How many integers from 1 on are not made, None if they are endlessly many."""
    making = _making(one)
    if making is None or making.common() > 1:
        return None
    return making.how_many_missing()


def _check(one):
    if not isinstance(one, Circle):
        raise NotACircle(one)


def _met(one, other):
    """From where on, and by what, both come round."""
    _check(one)
    _check(other)
    base = lcm(one.base, other.base)
    if base > MOST_CIRCLE:
        raise TooMany(MOST_CIRCLE)
    return max(one.start, other.start), base


def told_circle(early, start, base, rests):
    """The circle told so, if it is not too great; what is passed need not be its least form."""
    early, start, base, rests = least_form(early, start, base, rests)
    if start > MOST_CIRCLE or base > MOST_CIRCLE:
        raise TooMany(MOST_CIRCLE)
    return Circle(early, start, base, rests)


def _bits(one, length):
    """The numbers of it below the length, which is not below its start, as bits."""
    endless = bits_of(first_of_each(one.start, one.base, one.rests))
    return bits_of(one.early) | closed_under(endless, one.base, length)


def _shown(bits, start, base):
    """The circle that the bits show: by the base from the start on."""
    early = numbers_of(bits & (1 << start) - 1)
    shown = numbers_of(bits >> start & (1 << base) - 1)
    return told_circle(early, start, base, sorted([(start + number) % base for number in shown]))


def _making(one):
    """The numbers that it makes, None if it has no number above 0."""
    _check(one)
    if next_in(one, 1) is None:
        return None
    return Making(one.early, first_of_each(one.start, one.base, one.rests), one.base)

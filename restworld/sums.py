"""Sums of powers: values, slopes, steps, and what two of them make."""

from restworld.checks import check_base, check_number, check_sum, is_coefficient
from restworld.coefficients import (
    led_through, product_of_both, rest_at, slope_of, steps_of, sum_of_both, terms_of_steps, value_at,
)
from restworld.errors import InvalidValues, TooGreat
from restworld.limits import MOST_DEGREE


def value(terms, number):
    """The value of the sum at the number."""
    check_sum(terms)
    check_number(number)
    return value_at(terms, number)


def value_by(terms, number, base):
    """The rest of the value at the number."""
    check_sum(terms)
    check_number(number)
    check_base(base)
    return rest_at(terms, number, base)


def slope(terms):
    """The sum c1 + 2 * c2 * x + 3 * c3 * x * x and so on."""
    check_sum(terms)
    return _not_too_great(slope_of(terms))


def steps(terms):
    """The steps of the sum, as many as it has elements."""
    check_sum(terms)
    return steps_of(terms)


def sum_of_steps(steps):
    """The sum that has these steps."""
    if not isinstance(steps, tuple) or not steps:
        raise InvalidValues(None)
    for index, step in enumerate(steps):
        if index > MOST_DEGREE or not is_coefficient(step):
            raise InvalidValues(index)
    return _not_too_great(terms_of_steps(steps))


def added(one, other):
    """The sum whose values are those of both, added."""
    _check_both(one, other)
    return _not_too_great(sum_of_both(one, other))


def multiplied(one, other):
    """The sum whose values are those of both, multiplied."""
    _check_both(one, other)
    return _not_too_great(product_of_both(one, other))


def led(one, other):
    """The sum whose values are those of the one at the values of the other one."""
    _check_both(one, other)
    return _not_too_great(led_through(one, other))


def _check_both(one, other):
    check_sum(one)
    check_sum(other)


def _not_too_great(terms):
    """The same coefficients, if they are a sum."""
    for coefficient in terms:
        if not is_coefficient(coefficient):
            raise TooGreat(coefficient)
    degree = len(terms) - 1
    if degree > MOST_DEGREE:
        raise TooGreat(degree)
    return terms

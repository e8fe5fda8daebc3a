"""Powers of numbers by a base: orders, rounds, roots and towers."""

from math import gcd, lcm

from restworld.arithmetic import inverse, raised, raised_by
from restworld.checks import check_base, check_number, check_walked, check_within, is_within
from restworld.errors import InvalidValues, NotOpen, TooGreat
from restworld.limits import MOST_FACT, MOST_NUMBER
from restworld.numbers import apart
from restworld.units import common_length, cycles, order_of, split, tail_of

MOST_EXPONENTS = 10 ** 6
MOST_TOWER = 8
# No tail is as long: a base up to 10 ** 12 is divided by a prime less than 40 times.
LONGEST_TAIL = 40


def power_rest(number, power, base):
    """The rest of the number to this power."""
    check_number(number)
    _check_power(power)
    check_within(base, 1, MOST_FACT)
    return raised_by(number, power, base)


def is_open(number, base):
    """Whether no integer above 1 divides both."""
    check_number(number)
    check_within(base, 1, MOST_FACT)
    return gcd(number, base) == 1


def back(number, base):
    """The rest that, times the number, leaves the rest of 1."""
    if not is_open(number, base):
        raise NotOpen(number)
    return inverse(number, base)


def order(number, base):
    """The least k from 1 on for which number ** k leaves the rest of 1."""
    _check_open(number, base)
    return order_of(number, base)


def count_open(base):
    """How many rests are open."""
    check_base(base)
    return _product(cycles(base))


def common_order(base):
    """The least k from 1 on that the orders of all open numbers divide."""
    check_base(base)
    return common_length(base)


def parts(base):
    """The integers above 1, each dividing the next one, by whose rests multiplying goes as adding."""
    check_base(base)
    chain = []
    for many in cycles(base):
        left = many
        for at in range(len(chain) - 1, -1, -1):
            chain[at], left = lcm(chain[at], left), gcd(chain[at], left)
        chain.insert(0, left)
    return tuple([part for part in chain if part > 1])


def leader(base):
    """The least rest whose order is how many open rests there are, None if there is none."""
    check_base(base)
    many = _product(cycles(base))
    if many != common_length(base):
        return None
    steps = [many // prime for prime, _ in apart(many)]
    rest = 0
    while not _is_leader(rest, base, steps):
        rest += 1
    return rest


def tail_and_round(number, base):
    """The pair (t, r) of the powers of the number."""
    check_number(number)
    check_base(base)
    return _tail_and_round(number, base)


def exponents(number, other, base):
    """For which k number ** k leaves the rest of the other one: None, (k, 0) for one, or (k, step)."""
    check_number(number)
    check_number(other)
    check_base(base)
    if base > MOST_EXPONENTS:
        raise TooGreat(base)
    tail, step = _tail_and_round(number, base)
    wanted = other % base
    rest = 1 % base
    for exponent in range(tail + step):
        if rest == wanted:
            return (exponent, 0) if exponent < tail else (exponent, step)
        rest = rest * number % base
    return None


def tower_rest(values, base):
    """The rest of the first value to the power of (the second one to the power of (and so on))."""
    if not isinstance(values, tuple) or not values:
        raise InvalidValues(None)
    for index, given in enumerate(values):
        if index >= MOST_TOWER or not is_within(given, 1, MOST_NUMBER):
            raise InvalidValues(index)
    check_base(base)
    return _tower_rest(values, base)


def count_roots(number, power, base):
    """How many rests to this power leave the rest of the number, which is open."""
    check_number(number)
    _check_power(power)
    _check_open(number, base)
    if power == 0:
        return base if (number - 1) % base == 0 else 0
    many = 1
    for prime, often in apart(base):
        many *= _count_roots_by_power(number, power, prime, often)
    return many


def roots(number, power, base):
    """The rests that to this power leave the rest of the number, ascending."""
    check_number(number)
    _check_power(power)
    check_base(base)
    check_walked(base)
    least = power
    if power > LONGEST_TAIL:
        least = LONGEST_TAIL + (power - LONGEST_TAIL) % common_length(base)
    rest = number % base
    return tuple([root for root in range(base) if raised_by(root, least, base) == rest])


def _check_power(power):
    check_within(power, 0, MOST_NUMBER)


def _check_open(number, base):
    check_number(number)
    check_base(base)
    if gcd(number, base) != 1:
        raise NotOpen(number)


def _product(numbers):
    product = 1
    for number in numbers:
        product *= number
    return product


def _is_leader(rest, base, steps):
    if gcd(rest, base) != 1:
        return False
    for step in steps:
        if raised_by(rest, step, base) == 1 % base:
            return False
    return True


def _tail_and_round(number, base):
    _, left = split(number, base)
    return tail_of(number, base), order_of(number, left)


def _tower_rest(values, base):
    number = values[0]
    exponent = _height(values[1:], LONGEST_TAIL)
    if exponent < LONGEST_TAIL:
        return raised_by(number, exponent, base)
    _, step = _tail_and_round(number, base)
    behind = (_tower_rest(values[1:], step) - LONGEST_TAIL) % step
    return raised_by(number, LONGEST_TAIL + behind, base)


def _height(values, most):
    """The number that the tower makes, 1 for no values, or the most if it is greater."""
    height = 1
    for number in reversed(values):
        # Anything but 1 to the power of the most is greater than it.
        height = min(raised(min(number, most), height), most)
    return height


def _count_roots_by_power(number, power, prime, often):
    """How many roots there are by a power of a prime, the power of the root being above 0."""
    base = raised(prime, often)
    if prime == 2 and often > 2:
        if power % 2:
            return 1
        if number % 4 != 1:
            return 0
        # Each rest of 1 by 4 is a power of 5, and two rests have the same square up to their sign.
        return 2 * _count_in_cycle(number, power, base // 4, base)
    return _count_in_cycle(number, power, base // prime * (prime - 1), base)


def _count_in_cycle(number, power, length, base):
    shared = gcd(power, length)
    return shared if raised_by(number, length // shared, base) == 1 % base else 0

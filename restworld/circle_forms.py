"""How circles are told: which tellings are right, and the least one; only `check_form` looks at what it is given."""

from restworld.checks import check_within, is_integer, is_within
from restworld.errors import InvalidNumber, InvalidRests, InvalidValues
from restworld.numbers import apart

MOST_CIRCLE = 20000


def check_form(early, start, base, rests):
    """Raises the error of the first that is wrong."""
    if not isinstance(early, tuple):
        raise InvalidValues(None)
    for index, number in enumerate(early):
        if not is_integer(number) or number < 0 or index > 0 and number <= early[index - 1]:
            raise InvalidValues(index)
    check_within(start, 0, MOST_CIRCLE)
    if early and start <= early[-1]:
        raise InvalidNumber(start)
    check_within(base, 1, MOST_CIRCLE)
    if not isinstance(rests, tuple):
        raise InvalidRests(None)
    for index, rest in enumerate(rests):
        if not is_within(rest, 0, base - 1) or index > 0 and rest <= rests[index - 1]:
            raise InvalidRests(index)


def least_form(early, start, base, rests):
    """The least form of the circle told so, both lists ascending: early, start, base and rests."""
    base, rests = _least_base(base, rests)
    is_rest = {rest: True for rest in rests}
    kept = list(early)
    while start > 0:
        is_early = len(kept) > 0 and kept[-1] == start - 1
        if is_early != ((start - 1) % base in is_rest):
            break
        start -= 1
        if is_early:
            kept.pop()
    return tuple(kept), start, base, rests


def first_of_each(start, base, rests):
    """For each rest the first number from the start on that leaves it, ascending."""
    return sorted([start + (rest - start) % base for rest in rests])


def _least_base(base, rests):
    if not rests:
        return 1, ()
    least = base
    kept = tuple(rests)
    for prime, often in apart(base):
        for _ in range(often):
            if not _comes_round(kept, prime, least // prime):
                break
            least //= prime
            kept = kept[:len(kept) // prime]
    return least, kept


def _comes_round(rests, times, step):
    """Whether the rests are made of so many times the same ones, each time a step further."""
    many = len(rests) // times
    if many * times != len(rests):
        return False
    for at in range(many, len(rests)):
        if rests[at] != rests[at - many] + step:
            return False
    return True

"""The rings on which a sum leads the rests round, and the tails that lead to them."""

from restworld.checks import check_base, check_number, check_sum, check_walked, check_within
from restworld.coefficients import rest_at
from restworld.limits import MOST_NUMBER
from restworld.tables import table_of


def rings(terms, base):
    """The pairs (length, how many rings of this length), ascending."""
    _check_ring(terms, base)
    many = {}
    for ring in _all_rings(table_of(terms, base)):
        many[len(ring)] = many.get(len(ring), 0) + 1
    return tuple(sorted(list(many.items())))


def ring_of(terms, base, number):
    """The ring at which one comes out from the number, the least rest first."""
    _check_from(terms, base, number)
    path, begin = _path(terms, base, number)
    return _least_first(path[begin:])


def tail(terms, base, number):
    """After how many times one is on the ring for the first time."""
    _check_from(terms, base, number)
    _, begin = _path(terms, base, number)
    return begin


def longest_tail(terms, base):
    """The greatest number of times until one is on a ring, from any rest."""
    _check_ring(terms, base)
    table = table_of(terms, base)
    behind = [[] for _ in table]
    on_ring = [False] * base
    for ring in _all_rings(table):
        for rest in ring:
            on_ring[rest] = True
    for rest, led in enumerate(table):
        if not on_ring[rest]:
            behind[led].append(rest)
    longest = -1
    layer = [rest for rest in range(base) if on_ring[rest]]
    while layer:
        longest += 1
        layer = [rest for led in layer for rest in behind[led]]
    return longest


def after(terms, base, number, times):
    """The rest to which one comes from the number, led so many times."""
    check_sum(terms)
    check_base(base)
    check_number(number)
    check_within(times, 0, MOST_NUMBER)
    check_walked(base)
    path, begin = _path(terms, base, number)
    if times < begin:
        return path[times]
    return path[begin + (times - begin) % (len(path) - begin)]


def _check_ring(terms, base):
    check_sum(terms)
    check_base(base)
    check_walked(base)


def _check_from(terms, base, number):
    check_sum(terms)
    check_base(base)
    check_number(number)
    check_walked(base)


def _path(terms, base, number):
    """All rests to which one comes, in their order, and the index at which the ring begins."""
    seen = {}
    path = []
    rest = number % base
    while rest not in seen:
        seen[rest] = len(path)
        path.append(rest)
        rest = rest_at(terms, rest, base)
    return path, seen[rest]


def _least_first(ring):
    least = ring.index(min(ring))
    return tuple(ring[least:] + ring[:least])


def _all_rings(table):
    """Each ring once, as a list of its rests in their order."""
    found = []
    begun = [None] * len(table)
    for first in range(len(table)):
        path = []
        rest = first
        while begun[rest] is None:
            begun[rest] = first
            path.append(rest)
            rest = table[rest]
        if begun[rest] == first:
            found.append(path[path.index(rest):])
    return found

"""The claims of a shelf: which they are, and whether they hold of things.

A claim is its word, the names of the things that it is of, and then numbers
of some kinds: a fact, an N (any integer of a fact's size) or an M (a base).
What judges a claim gets what the named things hold, and the numbers; it tells
a pair: whether the claim holds, and what shows that it does not.
"""

from restworld.checks import is_fact, is_within
from restworld.coefficients import rest_at
from restworld.errors import InvalidClaim
from restworld.functions import first_unlike
from restworld.lighting import first_dark
from restworld.limits import MOST_FACT, MOST_LAMPS, MOST_PRIME, MOST_WALKED
from restworld.merging import all_merged, is_fitting, is_told, left_by
from restworld.numbers import apart
from restworld.subsets import quarrelling_pairs
from restworld.tables import table_of

HOLDS = (True, None)


def _together(facts):
    for pair in quarrelling_pairs(facts):
        return False, pair
    return HOLDS


def _tells(facts, fact):
    known = all_merged(facts)
    if known is None:
        return False, None
    return HOLDS if is_told(fact, known) else (False, left_by(known, fact[1]))


def _covers(facts):
    if len(facts) > MOST_LAMPS:
        return False, None
    dark = first_dark(facts, 0)
    return HOLDS if dark is None else (False, dark)


def _dark(facts, number):
    if len(facts) > MOST_LAMPS:
        return False, None
    for index, lamp in enumerate(facts):
        if is_fitting(number, lamp):
            return False, index
    return HOLDS


def _same(one, other, base):
    number = first_unlike(one, other, base)
    return HOLDS if number is None else (False, number)


def _turns(terms, base):
    if max([prime for prime, _ in apart(base)], default=1) > MOST_PRIME:
        return False, None
    led_from = {}
    pairs = []
    for number, rest in enumerate(table_of(terms, base)):
        if rest not in led_from:
            led_from[rest] = number
        else:
            pairs.append((led_from[rest], number))
    return (False, min(pairs)) if pairs else HOLDS


def _zero(terms, number, base):
    rest = rest_at(terms, number, base)
    return (False, rest) if rest else HOLDS


# Of which sort the things are that are named, and how many.
SORTS = {
    "together": "facts", "tells": "facts", "covers": "facts", "dark": "facts", "same": "sum", "turns": "sum",
    "zero": "sum",
}
MANY_NAMES = {"together": 1, "tells": 1, "covers": 1, "dark": 1, "same": 2, "turns": 1, "zero": 1}
# Of which kinds the numbers behind the names are.
KINDS = {
    "together": (), "tells": ("FACT",), "covers": (), "dark": ("N",), "same": ("M",), "turns": ("M",),
    "zero": ("N", "M"),
}
JUDGES = {
    "together": _together, "tells": _tells, "covers": _covers, "dark": _dark, "same": _same, "turns": _turns,
    "zero": _zero,
}


def check_claim(given):
    """Raises InvalidClaim for what is no claim; its names are not looked at."""
    if not isinstance(given, tuple) or not given or not isinstance(given[0], str) or given[0] not in SORTS:
        raise InvalidClaim(given)
    word = given[0]
    behind = 1 + MANY_NAMES[word]
    if len(given) != behind + len(KINDS[word]):
        raise InvalidClaim(given)
    for number, kind in zip(given[behind:], KINDS[word]):
        if not is_of_kind(number, kind):
            raise InvalidClaim(given)


def is_of_kind(given, kind):
    """Whether it is a number of this kind."""
    if kind == "FACT":
        return is_fact(given)
    if kind == "N":
        return is_within(given, 0, MOST_FACT)
    return is_within(given, 1, MOST_WALKED)


def names_of(claim):
    """The names in the claim."""
    return claim[1:1 + MANY_NAMES[claim[0]]]


def sort_of(claim):
    """Of which sort the things are that the claim names."""
    return SORTS[claim[0]]


def judged(claim, things):
    """What its judge tells of the claim; the things are told by their names."""
    judge = JUDGES[claim[0]]
    names = names_of(claim)
    parts = [things[name][1] for name in names] + list(claim[1 + len(names):])
    return judge(*parts)

"""At which numbers lamps are lit; nothing is checked here.

A number is dark exactly if the product over all lamps of 1 less a turning
number (one root of unity to the power of the number less the lamp's rest) is
not 0. With n lamps this is a sum of 2 ** n powers, so if it is 0 at 2 ** n
neighbouring numbers it is 0 everywhere: so many numbers show whether lamps
cover, and no lit stretch is as long as this unless they do.
"""

from math import comb

from restworld.merging import is_fitting
from restworld.subsets import index_sets, joined_sets


def is_lit(lamps, number):
    """Whether one of the lamps is lit at the number."""
    for lamp in lamps:
        if is_fitting(number, lamp):
            return True
    return False


def window_of(lamps):
    """How many neighbouring numbers show whether the lamps cover."""
    return 1 << len(lamps)


def first_dark(lamps, number):
    """The least dark number that is not less, None if there is none."""
    for dark in range(number, number + window_of(lamps)):
        if not is_lit(lamps, dark):
            return dark
    return None


def weighed_facts(lamps, many):
    """Pairs (weight, fact): counted so, as often as its weight says, the numbers
    that fit each fact are together those at which just so many lamps are lit."""
    weights = {}
    for indexes, fact in zip(index_sets(len(lamps)), joined_sets(lamps)):
        beyond = len(indexes) - many
        if fact is not None and beyond >= 0:
            weight = comb(len(indexes), many)
            weights[fact] = weights.get(fact, 0) + (-weight if beyond & 1 else weight)
    return [(weight, fact) for fact, weight in weights.items() if weight]

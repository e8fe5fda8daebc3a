"""At which numbers lamps are lit; nothing is checked here.

A number is dark exactly if the product over all lamps of 1 less a turning
number (one root of unity to the power of the number less the lamp's rest) is
not 0. With n lamps this is a sum of 2 ** n powers, so if it is 0 at 2 ** n
neighbouring numbers it is 0 everywhere: so many numbers show whether lamps
cover, and no lit stretch is as long as this unless they do.
"""

from math import comb, gcd

from restworld.merging import common_base, count_between, is_fitting, is_told
from restworld.subsets import index_sets, joined_sets


def is_lit(lamps, number):
    """Whether one of the lamps is lit at the number."""
    for lamp in lamps:
        if is_fitting(number, lamp):
            return True
    return False


def window_of(lamps):
    """How many neighbouring numbers show whether the lamps cover."""
    return 1 << len(lamps)


def first_dark(lamps, number):
    """The least dark number that is not less, None if there is none."""
    for dark in range(number, number + window_of(lamps)):
        if not is_lit(lamps, dark):
            return dark
    return None


def last_dark(lamps, number):
    """The greatest dark number that is not greater, None if there is none."""
    for dark in range(number, number - window_of(lamps), -1):
        if not is_lit(lamps, dark):
            return dark
    return None


def is_lit_along(lamps, fact):
    """Whether at each number that fits the fact one of the lamps is lit."""
    rest, base = fact
    # Along these numbers the lamps come round as lamps do, so as many of them show it.
    for number in range(rest, rest + base * window_of(lamps), base):
        if not is_lit(lamps, number):
            return False
    return True


def without_contained(lamps):
    """The lamps less those that are lit only where another one is."""
    kept = []
    for lamp in sorted(lamps, key=lambda one: one[1]):
        if not any([is_told(other, lamp) for other in kept]):
            kept.append(lamp)
    return kept


def weighed_facts(lamps, many):
    """Pairs (weight, fact): counted so, as often as its weight says, the numbers
    that fit each fact are together those at which just so many lamps are lit."""
    weights = {}
    for indexes, fact in zip(index_sets(len(lamps)), joined_sets(lamps)):
        beyond = len(indexes) - many
        if fact is not None and beyond >= 0:
            weight = comb(len(indexes), many)
            weights[fact] = weights.get(fact, 0) + (-weight if beyond & 1 else weight)
    return [(weight, fact) for fact, weight in weights.items() if weight]


def count_weighed(weighed, low, high):
    """How many numbers from low to high there are, by the weighed facts."""
    return sum([weight * count_between(fact, low, high) for weight, fact in weighed])


def share_weighed(lamps, weighed):
    """What part of all numbers it is, by the weighed facts of the lamps, as a fraction."""
    bottom = common_base(lamps)
    top = sum([weight * (bottom // fact[1]) for weight, fact in weighed])
    shared = gcd(top, bottom)
    return top // shared, bottom // shared


def dark_at(lamps, number, index):
    """The dark number with this index among those that are not less; some number is dark."""
    weighed = weighed_facts(lamps, 0)
    top, bottom = share_weighed(lamps, weighed)
    # From the number to the guess there are at most `window` dark ones more or less than
    # the index, as each fact is off by less than its weight; and in each window there is one.
    window = window_of(lamps)
    guess = number + index * bottom // top
    low = max(number, guess - window * (window + 2))
    high = guess + window * (window + 2)
    while low < high:
        middle = (low + high) // 2
        if count_weighed(weighed, number, middle) > index:
            high = middle
        else:
            low = middle + 1
    return low

"""Pairs of some facts, and all sets of them.

The sets stand in lists in which the index of each, in binary, tells its
members: 1 stands for the first fact, 2 for the second one, 4 for the third.
"""

from restworld.merging import are_quarrelling, count_between, merged


def quarrelling_pairs(facts):
    """All pairs of indexes, the lesser one first, of facts that quarrel, ascending."""
    many = len(facts)
    return [(i, j) for i in range(many) for j in range(i + 1, many) if are_quarrelling(facts[i], facts[j])]


def index_sets(many):
    """All sets of so many indexes, each an ascending tuple."""
    sets = [()]
    for index in range(many):
        sets = sets + [old + (index,) for old in sets]
    return sets


def joined_sets(facts):
    """For each set the fact that it makes, None if two of it quarrel."""
    joins = [(0, 1)]
    for fact in facts:
        joins = joins + [None if old is None else merged(old, fact) for old in joins]
    return joins


def least_sets(holds, many):
    """The sets of so many indexes that hold and no lesser part of which does.

    `holds` tells it for each set; with a set all that contain it hold.
    """
    least = []
    for at, indexes in enumerate(index_sets(many)):
        if holds[at] and not any([holds[at - (1 << index)] for index in indexes]):
            least.append(indexes)
    return tuple(sorted(least, key=lambda indexes: (len(indexes), indexes)))


def greatest_sets(holds, many):
    """The sets of so many indexes that hold and to which none can be added so.

    `holds` tells it for each set; with a set all its parts hold.
    """
    greatest = []
    for at, indexes in enumerate(index_sets(many)):
        others = [index for index in range(many) if index not in indexes]
        if holds[at] and not any([holds[at + (1 << index)] for index in others]):
            greatest.append(indexes)
    return tuple(sorted(greatest))


def most_fitted(facts, low, high):
    """A pair: how many facts a number from low to high fits at the most, and the
    facts that sets of so many make. No two of these have such a number in common,
    as it would fit more."""
    joins = joined_sets(facts)
    sizes = [len(indexes) for indexes in index_sets(len(facts))]
    size = len(facts)
    while True:
        nearest = [join for join, members in zip(joins, sizes)
                   if members == size and join is not None and count_between(join, low, high)]
        if nearest:
            return size, nearest
        size -= 1

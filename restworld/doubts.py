"""What facts tell of which some may be wrong."""

from restworld.checks import check_base, check_facts, check_few_facts, check_low_high, check_within
from restworld.errors import TooGreat
from restworld.limits import MOST_LAMPS, MOST_WALKED
from restworld.merging import count_between, least_from, left_by
from restworld.subsets import greatest_sets, index_sets, joined_sets, most_fitted


def kept_sets(facts):
    """The sets of facts, as tuples of indexes, of which no two quarrel and to which none can be added so."""
    check_facts(facts)
    check_few_facts(facts)
    kept = [join is not None for join in joined_sets(facts)]
    return greatest_sets(kept, len(facts))


def fewest_wrong(facts):
    """The least number of facts without which no two quarrel."""
    kept = kept_sets(facts)
    return len(facts) - max([len(indexes) for indexes in kept])


def nearest(facts, low, high):
    """A triple: how many facts a number from low to high fits at the most, the
    least such number, and how many such numbers there are."""
    check_facts(facts)
    check_low_high(low, high)
    check_few_facts(facts)
    most, joins = most_fitted(facts, low, high)
    least = min([least_from(join, low) for join in joins])
    return most, least, sum([count_between(join, low, high) for join in joins])


def told_though(facts, wrong, base):
    """The rests by the base of the numbers that fit all facts but at most so many wrong ones."""
    check_facts(facts)
    check_within(wrong, 0, MOST_LAMPS)
    check_base(base)
    if base > MOST_WALKED:
        raise TooGreat(base)
    check_few_facts(facts)
    told = _told_by_sets(facts, max(0, len(facts) - wrong), base)
    rests = {}
    for rest, step in told:
        for left in range(rest, base, step):
            rests[left] = True
    return tuple(sorted(rests))


def _told_by_sets(facts, size, base):
    """What sets of so many facts tell of the rests by the base, each once."""
    told = {}
    for indexes, join in zip(index_sets(len(facts)), joined_sets(facts)):
        if len(indexes) == size and join is not None:
            told[left_by(join, base)] = True
    return sorted(told)

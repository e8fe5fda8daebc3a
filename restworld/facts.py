"""What facts tell of all numbers that fit them."""

from restworld.checks import (
    check_base, check_fact, check_facts, check_index, check_low_high, check_number, check_few_facts,
)
from restworld.errors import Quarrel
from restworld.merging import all_merged, common_base, count_between, is_fitting, is_told, least_from, left_by
from restworld.subsets import joined_sets, least_sets, quarrelling_pairs


def fits(facts, number):
    """Whether the number fits all of them."""
    check_facts(facts)
    check_number(number)
    return all([is_fitting(number, fact) for fact in facts])


def quarrels(facts):
    """All pairs of indexes, the lesser one first, of facts that quarrel."""
    check_facts(facts)
    return tuple(quarrelling_pairs(facts))


def joined(facts):
    """The fact that just the numbers fit that fit all of them."""
    check_facts(facts)
    return _made_by(facts)


def rest_by(facts, base):
    """The fact (r, g), g dividing the base, for the rests by it of the numbers that fit."""
    check_facts(facts)
    check_base(base)
    return left_by(_made_by(facts), base)


def tells(facts, fact):
    """Whether each number that fits them fits the fact."""
    check_facts(facts)
    check_fact(fact)
    return is_told(fact, _made_by(facts))


def needless(facts):
    """The indexes of the facts that the other ones tell."""
    check_facts(facts)
    _check_no_quarrel(facts)
    return tuple([index for index in range(len(facts)) if _is_needless(facts, index)])


def count(facts, low, high):
    """How many numbers from low to high fit."""
    check_facts(facts)
    check_low_high(low, high)
    return count_between(_made_by(facts), low, high)


def nth(facts, low, index):
    """The number with this index among those from low on that fit."""
    check_facts(facts)
    check_number(low)
    check_index(index)
    fact = _made_by(facts)
    return least_from(fact, low) + index * fact[1]


def least_telling(facts, fact):
    """The sets of facts, as tuples of indexes, that tell the fact and no part of which does."""
    check_facts(facts)
    check_fact(fact)
    _check_no_quarrel(facts)
    check_few_facts(facts)
    told = [is_told(fact, known) for known in joined_sets(facts)]
    return least_sets(told, len(facts))


def _check_no_quarrel(facts):
    for i, j in quarrelling_pairs(facts):
        raise Quarrel(i, j)


def _made_by(facts):
    """The fact that all of them make; raises Quarrel if two quarrel."""
    _check_no_quarrel(facts)
    return all_merged(facts)


def _is_needless(facts, index):
    # As no two facts quarrel, the rest is right wherever the base is.
    others = facts[:index] + facts[index + 1:]
    return common_base(others) % facts[index][1] == 0

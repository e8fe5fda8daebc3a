"""Where lamps that are lit at one rest each leave numbers dark."""

from restworld.checks import check_index, check_lamps, check_low_high, check_number, check_within
from restworld.errors import NoNumber
from restworld.lighting import count_weighed, dark_at, first_dark, is_lit, share_weighed, weighed_facts
from restworld.limits import MOST_LAMPS
from restworld.stretches import longest_stretch, stretch_of

MOST_STRETCH = 10 ** 6


def is_dark(lamps, number):
    """Whether no lamp is lit at the number."""
    check_lamps(lamps)
    check_number(number)
    return not is_lit(lamps, number)


def count_dark(lamps, low, high):
    """How many numbers from low to high are dark."""
    check_lamps(lamps)
    check_low_high(low, high)
    return count_weighed(weighed_facts(lamps, 0), low, high)


def dark_from(lamps, number):
    """The least dark number that is not less, None if there is none."""
    check_lamps(lamps)
    check_number(number)
    return first_dark(lamps, number)


def nth_dark(lamps, number, index):
    """The dark number with this index among those that are not less."""
    check_lamps(lamps)
    check_number(number)
    check_index(index)
    if first_dark(lamps, number) is None:
        raise NoNumber()
    return dark_at(lamps, number, index)


def dark_share(lamps):
    """Of all numbers the part that is dark, a fraction."""
    check_lamps(lamps)
    return share_weighed(lamps, weighed_facts(lamps, 0))


def share_lit(lamps, many):
    """Of all numbers the part at which just so many lamps are lit, a fraction."""
    check_lamps(lamps)
    check_within(many, 0, MOST_LAMPS)
    return share_weighed(lamps, weighed_facts(lamps, many))


def longest_lit(lamps):
    """The number of integers of the longest lit stretch, None if the lamps cover."""
    check_lamps(lamps)
    if first_dark(lamps, 0) is None:
        return None
    return longest_stretch(lamps)


def lit_from(lamps, many):
    """An integer from which on so many are all lit, None if there is none."""
    check_lamps(lamps)
    check_within(many, 0, MOST_STRETCH)
    if first_dark(lamps, 0) is None:
        return 0
    return stretch_of(lamps, many)

"""The search for lit stretches; nothing is checked here.

Not the beginning of a stretch is searched for, but which places behind it
each lamp lights: what the lamps say of the beginning is kept as one fact, so
the search is as long for great bases as for small ones.
"""

from math import gcd

from restworld.lighting import is_lit, window_of, without_contained
from restworld.merging import merged


def stretch_of(lamps, many):
    """An integer from which on so many are all lit, None if there is none; the lamps do not cover."""
    if many >= window_of(lamps):
        return None
    search = Search(without_contained(lamps))
    return search.beginning((0, 1), tuple(range(many)), search.all_indexes())


def longest_stretch(lamps):
    """The number of integers of the longest lit stretch; the lamps do not cover."""
    longest = 0
    while True:
        start = stretch_of(lamps, longest + 1)
        if start is None:
            return longest
        longest = _length_around(lamps, start)


class Option:
    """Which dark places a lamp can light where something is known of the beginning.

    An offset of a lamp is the rest by its base of the places that it lights. A
    joker lights any one dark place, whatever the other lamps do: all are alike.
    """

    def __init__(self, index, lamp, lonely, fact, dark):
        rest, base = lamp
        step = gcd(fact[1], base)
        self.index = index
        self.span = base
        self.known = ((rest - fact[0]) % step, step)
        self.ways = base // step
        self.offsets = {}
        for place in dark:
            if (place - self.known[0]) % step == 0:
                offset = place % base
                self.offsets[offset] = self.offsets.get(offset, 0) + 1
        self.most = max(self.offsets.values(), default=0)
        self.joker = lonely and self.most == 1

    def gain(self, place):
        """How many dark places it lights, with one of them given, 0 if it cannot light this one."""
        return self.offsets.get(place % self.span, 0)


class Search:
    """Gives lamps offsets until no place is dark, and keeps what has failed."""

    def __init__(self, lamps):
        self.lamps = lamps
        self.lonely = [_is_lonely(lamps, index) for index in range(len(lamps))]
        self.failed = {}

    def all_indexes(self):
        """The indexes of all lamps."""
        return tuple(range(len(self.lamps)))

    def beginning(self, fact, dark, free):
        """A number that fits the fact, behind which the free lamps can light all dark places, None if there is none."""
        if not dark:
            return fact[0]
        options = [Option(index, self.lamps[index], self.lonely[index], fact, dark) for index in free]
        options = [option for option in options if option.most]
        if sum([option.most for option in options]) < len(dark):
            return None
        state = _state(options, dark)
        if state in self.failed:
            return None
        for chosen, offset in _fewest_moves(options, dark):
            left = tuple([option.index for option in options if option.index != chosen.index])
            number = self.placed(fact, dark, left, chosen, offset)
            if number is not None:
                return number
        self.failed[state] = True
        return None

    def placed(self, fact, dark, free, chosen, offset):
        """As `beginning`, with the chosen lamp at this offset, or without it for None."""
        if offset is None:
            return self.beginning(fact, dark, free)
        rest, base = self.lamps[chosen.index]
        known = merged(fact, ((rest - offset) % base, base))
        still_dark = tuple([place for place in dark if (place - offset) % base])
        return self.beginning(known, still_dark, free)


def _state(options, dark):
    """What alone matters for what is still to come, in whatever order other lamps were placed."""
    known = [(option.index, option.known) for option in options if not option.joker]
    return dark, len(options) - len(known), tuple(known)


def _fewest_moves(options, dark):
    """Pairs (option, offset) of which one has to be right if all can be lit: either all
    offsets of one lamp, None for those that light nothing, or all lamps for one place."""
    narrow = min(options, key=lambda option: option.ways)
    place, lamps = _rarest_place(options, dark)
    if len(lamps) < narrow.ways:
        jokers = [option for option in lamps if option.joker]
        others = [option for option in lamps if not option.joker]
        others = sorted(others, key=lambda option: -option.gain(place))
        return [(option, place % option.span) for option in others + jokers[:1]]
    offsets = sorted(narrow.offsets.keys(), key=lambda offset: -narrow.offsets[offset])
    moves = [(narrow, offset) for offset in offsets]
    if len(offsets) < narrow.ways:
        moves.append((narrow, None))
    return moves


def _rarest_place(options, dark):
    """A dark place that the fewest lamps can light, and these."""
    rarest = None
    for place in dark:
        lamps = [option for option in options if option.gain(place)]
        if rarest is None or len(lamps) < len(rarest[1]):
            rarest = (place, lamps)
    return rarest


def _is_lonely(lamps, index):
    """Whether the lamp's base has no common divisor above 1 with that of any other one."""
    base = lamps[index][1]
    others = lamps[:index] + lamps[index + 1:]
    return all([gcd(base, other[1]) == 1 for other in others])


def _length_around(lamps, number):
    """How long the lit stretch is in which the number stands."""
    low = number
    while is_lit(lamps, low - 1):
        low -= 1
    high = number
    while is_lit(lamps, high + 1):
        high += 1
    return high - low + 1

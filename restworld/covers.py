"""Lamps that leave no number dark."""

from restworld.checks import check_lamps, is_within
from restworld.errors import InvalidBases, TooMany
from restworld.lighting import first_dark, is_lit_along, window_of
from restworld.merging import common_base, is_fitting
from restworld.subsets import least_sets, quarrelling_pairs

MOST_COVER_BASES = 8
MOST_COVER_BASE = 60
MOST_COVERINGS = 1000


def covers(lamps):
    """Whether no number is dark."""
    check_lamps(lamps)
    return first_dark(lamps, 0) is None


def are_exact(lamps):
    """Whether at each number just one lamp is lit."""
    check_lamps(lamps)
    many = len(lamps)
    if len(quarrelling_pairs(lamps)) < many * (many - 1) // 2:
        return False
    whole = common_base(lamps)
    return sum([whole // base for _, base in lamps]) == whole


def needless_lamps(lamps):
    """The indexes of the lamps without which the same numbers are dark."""
    check_lamps(lamps)
    return tuple([index for index in range(len(lamps)) if _is_needless(lamps, index)])


def least_covers(lamps):
    """The sets of lamps, as tuples of indexes, that cover and no part of which does."""
    check_lamps(lamps)
    window = window_of(lamps)
    lit = [0]
    for lamp in lamps:
        places = _lit_places(lamp, window)
        lit = lit + [old | places for old in lit]
    everywhere = (1 << window) - 1
    return least_sets([places == everywhere for places in lit], len(lamps))


def coverings(bases):
    """All tuples of rests by the bases, the first one 0, for which the lamps cover."""
    _check_cover_bases(bases)
    search = CoverSearch(bases)
    choices = [tuple(range(base)) for base in bases]
    search.light(choices, list(range(len(bases))), list(range(window_of(bases))), 0, 0)
    return tuple(sorted(search.found))


class CoverSearch:
    """Finds each way to give the bases rests for which the lamps cover, once.

    The choices are, for each base, the rests that are still open for it; free
    are the indexes of the bases whose lamps were not yet asked to light a place.
    """

    def __init__(self, bases):
        self.bases = bases
        self.found = []

    def light(self, choices, free, dark, index, rest):
        """Looks on where the lamp with this index has this rest."""
        chosen = list(choices)
        chosen[index] = (rest,)
        others = [other for other in free if other != index]
        self.look(chosen, others, [place for place in dark if (place - rest) % self.bases[index]])

    def look(self, choices, free, dark):
        """Finds all ways within the choices in which the free lamps light the dark places."""
        if not dark:
            self.take_all(choices)
            return
        barred = list(choices)
        for index in free:
            rest = dark[0] % self.bases[index]
            if rest in barred[index]:
                self.light(barred, free, dark, index, rest)
                # Behind this, ways in which this lamp lights the place would be found again.
                barred[index] = tuple([other for other in barred[index] if other != rest])

    def take_all(self, choices):
        """Keeps all tuples of choices."""
        many = len(self.found)
        ways = 1
        for rests in choices:
            ways *= len(rests)
        if many + ways > MOST_COVERINGS:
            raise TooMany(MOST_COVERINGS)
        tuples = [()]
        for rests in choices:
            tuples = [told + (rest,) for told in tuples for rest in rests]
        self.found.extend(tuples)


def _check_cover_bases(bases):
    if not isinstance(bases, tuple) or not bases:
        raise InvalidBases(None)
    for index, base in enumerate(bases):
        if index >= MOST_COVER_BASES or not is_within(base, 1, MOST_COVER_BASE):
            raise InvalidBases(index)


def _is_needless(lamps, index):
    return is_lit_along(lamps[:index] + lamps[index + 1:], lamps[index])


def _lit_places(lamp, window):
    """The places below the window at which the lamp is lit, in binary."""
    places = 0
    for place in range(window):
        if is_fitting(place, lamp):
            places |= 1 << place
    return places

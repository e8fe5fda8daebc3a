"""restworld.covers."""

from itertools import product
from math import lcm

from restworld.covers import are_exact, coverings, covers, least_covers, needless_lamps
from restworld.errors import InvalidBases, InvalidFacts, TooMany
from tests.support import NO_FACTS, NO_INTEGERS, NO_TUPLES, Case, index_sets, least_of, some_facts

FIVE = ((0, 2), (0, 3), (1, 4), (5, 6), (7, 12))
GREAT = 10 ** 30
HALVES = tuple((2 ** k - 1, 2 ** (k + 1)) for k in range(12))
ALL_HALVES = HALVES[:11] + ((2 ** 11 - 1, 2 ** 11),)
LAMP_FUNCTIONS = (covers, are_exact, needless_lamps, least_covers)


def whole(lamps):
    return lcm(*[base for _, base in lamps])


def lit_sets(lamps, around):
    """For each lamp the numbers below this one at which it is lit."""
    return [frozenset(range(rest, around, base)) for rest, base in lamps]


def together(sets):
    return frozenset().union(*sets)


def all_coverings(bases):
    """From looking at all rests."""
    around = lcm(*bases)
    found = []
    for rests in product((0,), *[range(base) for base in bases[1:]]):
        if len(together(lit_sets(tuple(zip(rests, bases)), around))) == around:
            found.append(rests)
    return tuple(found)


class Examples(Case):
    def test_examples_of_the_document(self):
        self.tells(True, covers, FIVE)
        self.tells(True, are_exact, ((0, 2), (1, 4), (3, 4)))
        self.tells(False, are_exact, FIVE)
        self.tells((1,), needless_lamps, ((0, 2), (0, 4), (1, 3)))
        self.tells(((0, 1, 3), (0, 3, 1)), coverings, (2, 4, 4))
        self.tells((), coverings, (2, 3))
        self.tells(((0,), (1, 2)), least_covers, ((0, 1), (0, 2), (1, 2)))


class SmallLamps(Case):
    def test_against_looking_at_all_numbers(self):
        covering = exact = 0
        for seed, many, most in ((9, 6, 8), (10, 8, 4), (11, 5, 12), (12, 3, 3)):
            for lamps in some_facts(seed, many, most, 150):
                around = whole(lamps)
                lit = lit_sets(lamps, around)
                all_lit = together(lit)
                self.assertIs(covers(lamps), len(all_lit) == around)
                covering += len(all_lit) == around
                is_exact = len(all_lit) == around == sum(map(len, lit))
                self.assertIs(are_exact(lamps), is_exact)
                exact += is_exact
                wanted = [k for k in range(len(lamps)) if together(lit[:k] + lit[k + 1:]) == all_lit]
                self.assertEqual(needless_lamps(lamps), tuple(wanted))
                sets = [one for one in index_sets(len(lamps)) if len(together([lit[k] for k in one])) == around]
                self.assertEqual(least_covers(lamps), least_of(sets))
        self.assertGreater(covering, 100)
        self.assertGreater(exact, 20)

    def test_coverings_against_looking_at_all_rests(self):
        choices = [(1,), (7,), (60,), (1, 5), (5, 1), (1, 1, 1), (2, 2), (2, 2, 3), (3, 2, 2), (3, 3, 3), (2, 4, 8, 8)]
        choices += [(4, 2, 4), (2, 3, 6, 6), (2, 3, 4, 6, 12), (12, 6, 4, 3, 2), (2, 2, 2, 2), (3, 4, 6, 2)]
        choices += [(4, 4, 2, 5), (4, 4, 4, 4), (6, 3, 6, 2), (6, 6, 6, 3, 2), (2, 60), (8, 4, 2, 8, 3)]
        choices += [(2, 3, 4, 5, 6), (5, 5, 5, 5, 5)]
        found = 0
        for bases in choices:
            wanted = all_coverings(bases)
            self.tells(wanted, coverings, bases)
            found += len(wanted)
        self.assertGreater(found, 100)


class Edges(Case):
    def test_no_lamps(self):
        self.tells(False, covers, ())
        self.tells(False, are_exact, ())
        self.tells((), needless_lamps, ())
        self.tells((), least_covers, ())

    def test_lamps_by_base_one(self):
        self.tells(True, covers, ((0, 1),))
        self.tells(True, are_exact, ((0, 1),))
        self.tells((), needless_lamps, ((0, 1),))
        self.tells(((0,),), least_covers, ((0, 1),))
        self.tells((1,), needless_lamps, ((0, 1), (0, GREAT)))
        self.tells(False, are_exact, ((0, 1), (0, GREAT)))

    def test_one_lamp_twice(self):
        self.tells((0, 1), needless_lamps, ((0, 1), (0, 1)))
        self.tells(((0,), (1,)), least_covers, ((0, 1), (0, 1)))
        self.tells(False, are_exact, ((0, 1), (0, 1)))
        self.tells((0, 2), needless_lamps, ((0, 2), (1, 2), (0, 2)))
        self.tells(((0, 1), (1, 2)), least_covers, ((0, 2), (1, 2), (0, 2)))
        self.tells((0, 1), needless_lamps, ((5, GREAT), (5, GREAT)))

    def test_twelve_lamps(self):
        self.tells(False, covers, HALVES)
        self.tells(True, covers, ALL_HALVES)
        self.tells(False, are_exact, HALVES)
        self.tells(True, are_exact, ALL_HALVES)
        self.tells((), needless_lamps, HALVES)
        self.tells((tuple(range(12)),), least_covers, ALL_HALVES)
        self.tells((), least_covers, HALVES)
        self.tells(True, are_exact, tuple((k, 12) for k in range(12)))
        self.tells((tuple(range(12)),), least_covers, tuple((k, 12) for k in range(12)))
        halves = ((0, 2), (1, 2)) * 6
        self.tells(tuple(range(12)), needless_lamps, halves)
        wanted = sorted(tuple(sorted((i, j))) for i in range(0, 12, 2) for j in range(1, 12, 2))
        self.tells(tuple(wanted), least_covers, halves)

    def test_a_lamp_that_others_light_only_together(self):
        self.tells((0, 2, 3), needless_lamps, ((1, 5), (0, 2), (1, 20), (11, 20)))
        self.tells((3,), needless_lamps, (*FIVE[:3], (2, 10 ** 9), *FIVE[3:]))

    def test_great_lamps(self):
        great = tuple((k, GREAT) for k in range(12))
        self.tells(False, covers, great)
        self.tells(False, are_exact, great)
        self.tells((), needless_lamps, great)
        self.tells((), least_covers, great)
        half = GREAT // 2
        lamps = ((0, 2), (1, GREAT), (1 + half, GREAT), (1, half), (3, half))
        self.tells((1, 2, 3), needless_lamps, lamps)
        self.tells((1, 2), needless_lamps, ((0, 2), (1, GREAT), (5, GREAT), (1, 4)))
        self.tells(((0, 1),), least_covers, ((0, 2), (1, 2), (1, GREAT), (0, GREAT - 1)))
        self.tells(True, covers, ((0, 2), (1, GREAT), (1, 2)))

    def test_sets_are_ordered_by_how_many_they_are(self):
        lamps = ((0, 3), (1, 3), (2, 3), (0, 2), (1, 2), (0, 1))
        self.tells(((5,), (3, 4), (0, 1, 2)), least_covers, lamps)


class Coverings(Case):
    def test_bases_at_their_bounds(self):
        self.tells(((0,),), coverings, (1,))
        self.tells((), coverings, (60,))
        self.tells((), coverings, (60,) * 8)
        self.tells(tuple((0, k) for k in range(60)), coverings, (1, 60))
        self.tells(tuple((0, k, 0) for k in range(16)), coverings, (60, 16, 1))
        self.tells((), coverings, (3, 5, 7, 11, 13, 17, 19, 23))

    def test_a_thousand_and_more(self):
        self.tells(tuple(product((0,), range(50), range(20))), coverings, (1, 50, 20))
        self.refuses(TooMany(1000), coverings, (1, 7, 11, 13))
        self.refuses(TooMany(1000), coverings, (8,) * 8)
        self.refuses(TooMany(1000), coverings, (1,) + (60,) * 7)
        self.assertEqual(len(self.ask(coverings, (6,) * 6)), 120)
        self.assertEqual(len(self.ask(coverings, (7,) * 7)), 720)
        self.assertEqual(coverings((1, 2, 4, 5, 5, 5, 1, 1)), tuple(product((0,), *map(range, (2, 4, 5, 5, 5, 1, 1)))))

    def test_eight_bases(self):
        told = self.ask(coverings, (2, 4, 8, 16, 32, 60, 60, 60))
        self.assertEqual(told, ())
        told = self.ask(coverings, (3, 4, 6, 8, 12, 24, 24, 24))
        self.assertTrue(all(rests[0] == 0 for rests in told))
        self.assertTrue(all(covers(tuple(zip(rests, (3, 4, 6, 8, 12, 24, 24, 24)))) for rests in told))
        self.assertEqual(list(told), sorted(set(told)))

    def test_wrong_bases(self):
        for wrong in NO_TUPLES + ((),):
            self.refuses(InvalidBases(None), coverings, wrong)
        for wrong in NO_INTEGERS + (0, -1, 61, 10 ** 40):
            self.refuses(InvalidBases(0), coverings, (wrong,))
            self.refuses(InvalidBases(1), coverings, (2, wrong, 0))
            self.refuses(InvalidBases(7), coverings, (2,) * 7 + (wrong, wrong))
        self.refuses(InvalidBases(8), coverings, (2,) * 9)
        self.refuses(InvalidBases(8), coverings, (2,) * 8 + (None, None))
        self.refuses(InvalidBases(8), coverings, (60,) * 20)


class Wrong(Case):
    def test_lamps(self):
        for function in LAMP_FUNCTIONS:
            for wrong in NO_TUPLES:
                self.refuses(InvalidFacts(None), function, wrong)
            for wrong in NO_FACTS:
                self.refuses(InvalidFacts(0), function, (wrong,))
                self.refuses(InvalidFacts(1), function, ((0, 2), wrong, wrong))
            self.refuses(InvalidFacts(12), function, ((0, 2),) * 13)
            self.refuses(InvalidFacts(12), function, ((0, 2),) * 12 + (None, None))

"""restworld.doubts."""

from math import gcd, lcm

from restworld.doubts import fewest_wrong, kept_sets, nearest, told_though
from restworld.errors import InvalidFacts, InvalidNumber, TooGreat, TooMany
from tests.support import NO_FACTS, NO_INTEGERS, NO_TUPLES, Case, greatest_of, index_sets, some_facts

THREE = ((2, 3), (3, 5), (2, 7))
ODD = ((0, 2), (1, 2), (0, 3))
MOST = 10 ** 40
GREAT = 10 ** 30
ALL = ((kept_sets,), (fewest_wrong,), (nearest, 0, 1), (told_though, 0, 1))


def fitted_by(facts, number):
    return tuple(i for i, (rest, base) in enumerate(facts) if number % base == rest)


class Examples(Case):
    def test_examples_of_the_document(self):
        told = [kept_sets(ODD), fewest_wrong(ODD), nearest(ODD, 1, 5), nearest(ODD, 0, 0), told_though(ODD, 1, 6)]
        self.assertEqual(told, [((0, 2), (1, 2)), 1, (2, 3, 1), (2, 0, 1), (0, 3)])
        self.assertEqual([told_though(ODD, 0, 6), told_though(THREE, 1, 3)], [(), (0, 1, 2)])


class SmallFacts(Case):
    def test_against_looking_at_all_numbers(self):
        for facts in some_facts(3, 5, 9, 200):
            around = lcm(*[base for _, base in facts])
            fitted = [fitted_by(facts, x) for x in range(around)]
            kept = greatest_of({one for one in index_sets(len(facts)) if any(set(one) <= set(f) for f in fitted)})
            self.assertEqual(kept_sets(facts), kept)
            self.assertEqual(fewest_wrong(facts), len(facts) - max(len(one) for one in fitted))
            for low, high in ((0, 0), (-5, -1), (-3, 9), (7, 60), (-around, around)):
                most = max(len(fitted[x % around]) for x in range(low, high + 1))
                near = [x for x in range(low, high + 1) if len(fitted[x % around]) == most]
                self.assertEqual(nearest(facts, low, high), (most, near[0], len(near)))
            for wrong in range(7):
                for base in (1, 2, 6, 7, 8):
                    near = [x for x in range(lcm(around, base)) if len(facts) - len(fitted[x % around]) <= wrong]
                    rests = {x % base for x in near}
                    self.assertEqual(told_though(facts, wrong, base), tuple(sorted(rests)))


class Edges(Case):
    def test_no_facts(self):
        self.tells(((),), kept_sets, ())
        self.tells(0, fewest_wrong, ())
        self.tells((0, -MOST, 2 * MOST + 1), nearest, (), -MOST, MOST)
        self.tells((0, 5, 1), nearest, (), 5, 5)
        self.tells((0, 1, 2), told_though, (), 0, 3)
        self.tells((0, 1, 2), told_though, (), 12, 3)

    def test_the_fact_that_each_number_fits_and_base_one(self):
        self.tells(((0, 1, 3), (0, 2, 3)), kept_sets, ((0, 1), *ODD))
        self.tells((0,), told_though, ODD, 1, 1)
        self.tells((), told_though, ODD, 0, 1)

    def test_doubled_facts(self):
        facts = ((1, 2), (1, 2), (0, 2))
        self.tells(((0, 1), (2,)), kept_sets, facts)
        self.tells(1, fewest_wrong, facts)
        self.tells((2, 1, 5), nearest, facts, 0, 10)
        self.tells((1,), told_though, facts, 1, 2)
        self.tells((0, 1), told_though, facts, 2, 2)

    def test_no_number_fits_any_fact(self):
        self.tells((0, 1, 2), nearest, ((0, 5), (3, 5)), 1, 2)

    def test_wrong_facts_at_their_bounds(self):
        facts = tuple((k % 2, 2) for k in range(12))
        self.tells((), told_though, facts, 5, 6)
        self.tells((0, 1, 2, 3, 4, 5), told_though, facts, 6, 6)
        self.tells((0, 1, 2, 3, 4, 5), told_though, facts, 12, 6)
        self.tells((), told_though, facts, 0, 6)
        for wrong in NO_INTEGERS + (-1, 13, MOST):
            self.refuses(InvalidNumber(wrong), told_though, facts, wrong, 6)

    def test_base_at_its_bound(self):
        self.tells(tuple(range(2, 5000, 5)), told_though, ((2, 5),), 0, 5000)
        self.tells(tuple(range(5000)), told_though, ((2, 5),), 1, 5000)
        for base in (5001, 10 ** 12):
            self.refuses(TooGreat(base), told_though, ((2, 5),), 0, base)
            self.refuses(TooGreat(base), told_though, ((2, 5),) * 13, 0, base)
        for wrong in NO_INTEGERS + (0, -1, 10 ** 12 + 1):
            self.refuses(InvalidNumber(wrong), told_though, ((2, 5),) * 13, 0, wrong)

    def test_twelve_and_thirteen_facts(self):
        facts = tuple((k, 12) for k in range(12))
        self.tells(tuple((k,) for k in range(12)), kept_sets, facts)
        self.tells(11, fewest_wrong, facts)
        self.tells((1, -4, 10), nearest, facts, -4, 5)
        self.tells(tuple(range(12)), told_though, facts, 11, 12)
        for many in (13, 40):
            for function, *others in ALL:
                self.refuses(TooMany(12), function, ((0, 1),) * many, *others)

    def test_great_facts(self):
        facts = tuple((k + 1, GREAT - k) for k in range(12))
        kept = self.ask(kept_sets, facts)
        for one in kept:
            for other in range(12):
                quarrels = [(facts[i][0] - facts[other][0]) % gcd(facts[i][1], facts[other][1]) for i in one]
                self.assertEqual(any(quarrels), other not in one)
        most, least, many = self.ask(nearest, facts, -MOST, MOST)
        self.assertEqual(len(fitted_by(facts, least)), most)
        self.assertGreaterEqual(least, -MOST)
        self.assertGreater(many, 0)
        self.tells(12 - max(map(len, kept)), fewest_wrong, facts)

    def test_great_facts_that_all_one_number_fits(self):
        number = 10 ** 40 - 1
        facts = tuple((number % base, base) for base in range(GREAT - 11, GREAT + 1))
        self.tells((12, number, 1), nearest, facts, -MOST, MOST)
        self.tells((tuple(range(12)),), kept_sets, facts)
        self.tells((number % 16,), told_though, facts, 0, 16)


class Wrong(Case):
    def test_facts(self):
        for function, *others in ALL:
            for wrong in NO_TUPLES:
                self.refuses(InvalidFacts(None), function, wrong, *others)
            for wrong in NO_FACTS:
                self.refuses(InvalidFacts(1), function, ((0, 2), wrong, wrong), *others)
            self.refuses(InvalidFacts(40), function, ((0, 1),) * 41, *others)
            self.refuses(InvalidFacts(13), function, ((0, 1),) * 13 + (None,), *others)

    def test_numbers(self):
        for wrong in NO_INTEGERS + (MOST + 1, -MOST - 1):
            self.refuses(InvalidNumber(wrong), nearest, ODD, wrong, MOST)
            self.refuses(InvalidNumber(wrong), nearest, ((0, 1),) * 13, 0, wrong)
        self.refuses(InvalidNumber(-1), nearest, ODD, 0, -1)

    def test_several_wrong_arguments(self):
        facts = (ODD, [], InvalidFacts(None))
        low, high = (0, MOST + 1, InvalidNumber(MOST + 1)), (5, None, InvalidNumber(None))
        self.refuses_in_order(nearest, facts, low, high)
        self.refuses_in_order(told_though, facts, (0, 13, InvalidNumber(13)), (2, 5001, TooGreat(5001)))
        self.refuses_in_order(told_though, facts, (0, -1, InvalidNumber(-1)), (2, 0, InvalidNumber(0)))
        self.refuses(InvalidNumber(13), told_though, ((0, 1),) * 13, 13, 5001)

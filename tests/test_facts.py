"""restworld.facts."""

from math import lcm

from restworld.errors import InvalidFact, InvalidFacts, InvalidIndex, InvalidNumber, Quarrel, TooMany
from restworld.facts import count, fits, joined, least_telling, needless, nth, quarrels, rest_by, tells
from tests.support import NO_FACTS, NO_INTEGERS, NO_TUPLES, Case, index_sets, least_of, some_facts

THREE = ((2, 3), (3, 5), (2, 7))
MOST = 10 ** 40
GREAT = 10 ** 30
NO_NUMBERS = NO_INTEGERS + (MOST + 1, -MOST - 1)
QUARREL = ((1, 2), (0, 3), (1, 6), (0, 2))
ALL = ((fits, 0), (quarrels,), (joined,), (rest_by, 2), (tells, (0, 1)), (needless,), (count, 0, 1), (nth, 0, 0),
       (least_telling, (0, 1)))


def whole(facts):
    """A number with which all facts come round."""
    return lcm(*[base for _, base in facts])


def fitting(facts, low, high):
    return [x for x in range(low, high + 1) if all(x % base == rest for rest, base in facts)]


class Examples(Case):
    def test_examples_of_the_document(self):
        told = [joined(THREE), joined(()), fits(THREE, 23), quarrels(((1, 4), (2, 6), (3, 8))), rest_by(((2, 6),), 4)]
        self.assertEqual(told, [(23, 105), (0, 1), True, ((0, 1), (0, 2), (1, 2)), (0, 2)])
        told = [rest_by(THREE, 21), tells(THREE, (8, 15)), needless(((1, 2), (3, 4)))]
        self.assertEqual(told, [(2, 21), True, (0,)])
        told = [count(THREE, 0, 210), nth(THREE, 24, 0), nth(THREE, 23, 10 ** 20)]
        self.assertEqual(told, [2, 128, 10500000000000000000023])
        told = [least_telling(((1, 2), (3, 4), (2, 3)), (1, 2)), least_telling(THREE, (2, 21)), count((), -3, 3)]
        self.assertEqual(told, [((0,), (1,)), ((0, 2),), 7])
        self.refuses(Quarrel(0, 1), joined, ((0, 2), (1, 4)))


class SmallFacts(Case):
    def test_against_looking_at_all_numbers(self):
        told = 0
        for facts in some_facts(1, 4, 12, 500):
            fitted = fitting(facts, 0, whole(facts) - 1)
            pairs = [(i, j) for i in range(len(facts)) for j in range(i + 1, len(facts))
                     if not fitting((facts[i], facts[j]), 0, facts[i][1] * facts[j][1])]
            self.assertEqual(quarrels(facts), tuple(pairs))
            self.assertEqual(bool(fitted), not pairs)
            if pairs:
                for function, *others in ALL[2:]:
                    self.refuses(Quarrel(*pairs[0]), function, facts, *others)
                continue
            told += 1
            self.assertEqual(joined(facts), (fitted[0], whole(facts)))
            self.look_at(facts)
        self.assertGreater(told, 200)

    def look_at(self, facts):
        around = whole(facts)
        for base in (1, 2, 3, 4, 6, 12, 30, 35):
            rests = {x % base for x in fitting(facts, 0, lcm(around, base))}
            rest, step = rest_by(facts, base)
            self.assertEqual(base % step, 0)
            self.assertEqual(rests, set(range(rest, base, step)))
        for low, high in ((-40, -1), (-7, 13), (0, 0), (5, 400), (-around, around)):
            fitted = fitting(facts, low, high)
            self.assertEqual(count(facts, low, high), len(fitted))
            self.assertEqual([nth(facts, low, k) for k in range(len(fitted))], fitted)
        for x in range(-20, 20):
            self.assertIs(fits(facts, x), all(x % base == rest for rest, base in facts))

    def test_telling_against_looking_at_all_numbers(self):
        for facts in some_facts(2, 5, 8, 300):
            if quarrels(facts):
                continue
            for fact in ((0, 1), (1, 2), (0, 3), (3, 4), (5, 6), (3, 8), (7, 12), (1, 35)):
                self.assertIs(tells(facts, fact), self.are_told(facts, fact))
                sets = [one for one in index_sets(len(facts)) if self.are_told([facts[i] for i in one], fact)]
                self.assertEqual(least_telling(facts, fact), least_of(sets))
            wanted = [i for i in range(len(facts)) if self.are_told(facts[:i] + facts[i + 1:], facts[i])]
            self.assertEqual(needless(facts), tuple(wanted))

    def are_told(self, facts, fact):
        rest, base = fact
        return all(x % base == rest for x in fitting(facts, 0, lcm(whole(facts), base) - 1))


class Edges(Case):
    def test_no_facts(self):
        self.tells((0, 1), joined, ())
        self.tells(True, fits, (), -MOST)
        self.tells((), quarrels, ())
        self.tells((0, 1), rest_by, (), 10 ** 12)
        self.tells(True, tells, (), (0, 1))
        self.tells(False, tells, (), (0, 2))
        self.tells((), needless, ())
        self.tells(2 * MOST + 1, count, (), -MOST, MOST)
        self.tells(0, nth, (), -MOST, MOST)
        self.tells(((),), least_telling, (), (0, 1))
        self.tells((), least_telling, (), (1, 2))

    def test_the_fact_that_each_number_fits(self):
        every = ((0, 1),)
        self.tells((0, 1), joined, every)
        self.tells((0,), needless, every)
        self.tells((0, 1), needless, every + every)
        self.tells(((),), least_telling, THREE, (0, 1))
        self.tells(True, tells, THREE, (0, 1))
        self.tells((), quarrels, every + THREE)

    def test_doubled_facts(self):
        twice = ((3, 5), (3, 5))
        self.tells((3, 5), joined, twice)
        self.tells((0, 1), needless, twice)
        self.tells(((0,), (1,)), least_telling, twice, (3, 5))
        self.tells((), quarrels, twice)
        self.tells((3, 5), joined, ((3, 5),) * 40)
        self.tells(tuple(range(40)), needless, ((3, 5),) * 40)

    def test_base_one(self):
        self.tells((0, 1), rest_by, THREE, 1)

    def test_forty_and_forty_one_facts(self):
        primes = [n for n in range(2, 174) if all(n % k for k in range(2, n))]
        facts = tuple((n - 1, n) for n in primes)
        self.assertEqual(len(facts), 40)
        product = lcm(*primes)
        self.tells((product - 1, product), joined, facts)
        self.tells((), needless, facts)
        self.tells(-1, nth, facts, -5, 0)
        self.tells((173 * 167 - 1, 173 * 167), rest_by, facts, 173 * 167)
        self.tells(0, count, facts, 0, MOST)
        for function, *others in ALL:
            self.refuses(InvalidFacts(40), function, facts + ((0, 1),), *others)
            self.refuses(InvalidFacts(40), function, facts + (None, None), *others)

    def test_twelve_and_thirteen_facts_in_least_telling(self):
        facts = tuple((1, 2 ** k) for k in range(1, 13))
        self.tells(tuple((k,) for k in range(2, 12)), least_telling, facts, (1, 8))
        self.refuses(TooMany(12), least_telling, facts + ((0, 1),), (1, 8))
        self.refuses(Quarrel(0, 12), least_telling, facts + ((0, 2),), (1, 8))
        self.refuses(InvalidFact((2, 2)), least_telling, facts + ((0, 2),), (2, 2))
        self.refuses(TooMany(12), least_telling, ((0, 1),) * 40, (0, 1))
        halves = ((1, 2), (1, 2)) + tuple((0, n) for n in (3, 5, 7, 9, 25, 49))
        wanted = ((0, 2, 3), (0, 2, 6), (0, 3, 5), (0, 5, 6), (1, 2, 3), (1, 2, 6), (1, 3, 5), (1, 5, 6))
        self.tells(wanted, least_telling, halves, (15, 30))

    def test_sets_are_ordered_by_how_many_they_are(self):
        self.tells(((2,), (0, 1)), least_telling, ((1, 2), (1, 3), (1, 6)), (1, 6))

    def test_great_facts(self):
        facts = tuple((GREAT - 1 - k, GREAT - k) for k in range(12))
        product = lcm(*[base for _, base in facts])
        self.tells((product - 1, product), joined, facts)
        self.tells(True, tells, facts, (GREAT - 1, GREAT))
        self.tells(1, count, facts, -MOST, MOST)
        self.tells(product * MOST - 1, nth, facts, 0, MOST - 1)
        self.tells((10 ** 12 - 1, 10 ** 12), rest_by, facts, 10 ** 12)
        self.tells(True, fits, facts, -1)
        self.tells((GREAT - 1, GREAT), joined, ((GREAT - 1, GREAT),))
        self.tells(((0,),), least_telling, facts, (GREAT - 1, GREAT))
        self.tells(((0, 1),), quarrels, ((0, GREAT), (1, GREAT)))

    def test_what_is_returned_may_be_passed_on(self):
        fact = joined(((0, GREAT), (0, GREAT - 1)))
        self.refuses(InvalidFact(fact), tells, (), fact)
        self.refuses(InvalidFacts(0), joined, (fact,))
        self.tells((23, 105), joined, (joined(THREE),))

    def test_numbers_at_the_limits(self):
        self.tells(4, nth, ((4, 9),), -5, 0 + 1)
        self.tells(True, fits, ((0, 10),), MOST)
        self.tells(True, fits, ((0, 10),), -MOST)
        self.tells(2 * 10 ** 39 + 1, count, ((0, 10),), -MOST, MOST)
        self.tells(1, count, ((3, 7),), -4, -4)
        self.tells(0, count, ((3, 7),), -3, 2)


class Wrong(Case):
    def test_facts(self):
        for function, *others in ALL:
            for wrong in NO_TUPLES:
                self.refuses(InvalidFacts(None), function, wrong, *others)
            for wrong in NO_FACTS:
                self.refuses(InvalidFacts(0), function, (wrong, wrong), *others)
                self.refuses(InvalidFacts(2), function, (*QUARREL[:2], wrong), *others)

    def test_fact(self):
        for function in (tells, least_telling):
            for wrong in NO_FACTS:
                self.refuses(InvalidFact(wrong), function, THREE, wrong)
            bad = ((0, 1), [])
            self.refuses_in_order(function, (THREE, bad, InvalidFacts(1)), ((0, 1), (1, 1), InvalidFact((1, 1))))

    def test_numbers(self):
        for wrong in NO_NUMBERS:
            self.refuses(InvalidNumber(wrong), fits, THREE, wrong)
            self.refuses(InvalidNumber(wrong), count, THREE, wrong, MOST)
            self.refuses(InvalidNumber(wrong), count, THREE, 0, wrong)
            self.refuses(InvalidNumber(wrong), nth, THREE, wrong, 0)
        self.refuses(InvalidNumber(4), count, THREE, 5, 4)
        self.refuses(InvalidNumber(-MOST), count, THREE, 1 - MOST, -MOST)
        for wrong in NO_INTEGERS + (0, -1, 10 ** 12 + 1):
            self.refuses(InvalidNumber(wrong), rest_by, THREE, wrong)
        for wrong in NO_INTEGERS + (-1, MOST + 1):
            self.refuses(InvalidIndex(wrong), nth, THREE, 0, wrong)

    def test_quarrels_come_last_with_the_first_pair(self):
        for function, *others in ALL[2:]:
            self.refuses(Quarrel(0, 3), function, QUARREL, *others)
        self.refuses(Quarrel(0, 3), joined, ((1, 2), (1, 6), (0, 3), (0, 2)))
        self.refuses(InvalidNumber(0), rest_by, QUARREL, 0)
        self.refuses(InvalidFact(None), tells, QUARREL, None)
        self.refuses(InvalidNumber(2), count, QUARREL, 3, 2)
        self.refuses(InvalidIndex(-1), nth, QUARREL, 0, -1)
        self.refuses(InvalidFact(()), least_telling, QUARREL, ())
        self.tells(False, fits, QUARREL, 1)
        self.tells(((0, 3), (1, 2), (2, 3)), quarrels, QUARREL)

    def test_several_wrong_arguments(self):
        facts = (THREE, ((0, 1), (1, 1)), InvalidFacts(1))
        low, high = (0, None, InvalidNumber(None)), (9, -MOST - 1, InvalidNumber(-MOST - 1))
        self.refuses_in_order(fits, facts, low)
        self.refuses_in_order(rest_by, facts, (1, True, InvalidNumber(True)))
        self.refuses_in_order(count, facts, low, high)
        self.refuses_in_order(nth, facts, low, (0, -1, InvalidIndex(-1)))

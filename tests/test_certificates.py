"""restworld.certificates."""

import random
from math import gcd

from restworld.certificates import (
    certify_covers, certify_endless, certify_entry, certify_gap, certify_joined, certify_leader, certify_left,
    certify_no_root, certify_order, certify_round, certify_same, certify_turns, certify_zeros,
)
from restworld.checker import accepts
from restworld.circles import circle_of, greatest_gap
from restworld.covers import covers
from restworld.endless import count_by_power, endless
from restworld.errors import (
    InvalidAsks, InvalidFacts, InvalidNumber, InvalidPrime, InvalidRun, InvalidSum, InvalidValues, NotOpen, TooGreat,
)
from restworld.facts import joined, quarrels
from restworld.functions import same as same_by
from restworld.functions import turns
from restworld.hidden import count_left
from restworld.powers import count_open, leader, order, roots
from restworld.runs import entry, tail_and_round_of
from restworld.zeros import whole_zeros
from tests.support import (
    ASKS, FIB, FIVE, LINE, NO_BASES, NO_FACTS, NO_INTEGERS, NO_NUMBERS, NO_PRIMES, NO_SUMS, NO_TUPLES, ONES, PLUS, SQUARE,
    THREE, Case, same, some_facts, some_sums,
)

MOST = 10 ** 40
BASE = 10 ** 12
GREAT = 10 ** 30
BIG = 10 ** 9
PRIME = 999999999959


class Certificates(Case):
    def certifies(self, wanted, function, *given):
        """The function returns this claim and a paper, and both are accepted."""
        told = self.ask(function, *given)
        self.assertIs(type(told), tuple)
        claim, paper = told
        self.assertTrue(same(claim, wanted), f"{claim!r} is not {wanted!r}")
        self.assertIs(accepts(claim, paper), True, told)
        return paper


class Examples(Certificates):
    def test_examples_of_the_document(self):
        told = [certify_joined(THREE), certify_joined(((0, 2), (1, 4)))[0][0], certify_covers(FIVE)[0][0],
                certify_same(SQUARE, LINE, 3)[0][0], certify_turns(SQUARE, 3)[0][0], certify_zeros(ONES, 2, 9)[0][4],
                certify_order(3, 7), certify_round(FIB, 5)[0][3:]]
        self.assertEqual(told, [
            (("joined", THREE, 23, 105), ()), "quarrel", "covers", "unlike", "not turning", 4,
            (("order", 3, 7, 6), ((2, 1), (3, 1))), (0, 20),
        ])


class Facts(Certificates):
    def test_joined(self):
        for facts in some_facts(101, 5, 12, 150):
            pairs = quarrels(facts)
            if pairs:
                self.certifies(("quarrel", facts), certify_joined, facts)
            else:
                self.certifies(("joined", facts) + joined(facts), certify_joined, facts)
        self.certifies(("joined", (), 0, 1), certify_joined, ())
        facts = tuple((7, GREAT - k) for k in range(40))
        self.certifies(("joined", facts) + joined(facts), certify_joined, facts)
        self.certifies(("quarrel", facts[:39] + ((8, GREAT),)), certify_joined, facts[:39] + ((8, GREAT),))

    def test_covers(self):
        for lamps in some_facts(102, 5, 6, 150):
            word = "covers" if covers(lamps) else "not covering"
            self.certifies((word, lamps), certify_covers, lamps)
        self.certifies(("not covering", ()), certify_covers, ())
        self.certifies(("covers", ((0, 1),) * 12), certify_covers, ((0, 1),) * 12)
        lamps = tuple((rest, GREAT - 1) for rest in range(12))
        self.certifies(("not covering", lamps), certify_covers, lamps)

    def test_wrong_facts(self):
        for function, most in ((certify_joined, 40), (certify_covers, 12)):
            for wrong in NO_TUPLES:
                self.refuses(InvalidFacts(None), function, wrong)
            for wrong in NO_FACTS:
                self.refuses(InvalidFacts(2), function, ((0, 2), (1, 2), wrong, wrong))
            self.refuses(InvalidFacts(most), function, ((0, 2),) * (most + 1))

    def test_left(self):
        for asks, low, high in (((), 0, 0), (ASKS, 0, 11), (ASKS, -MOST, MOST), (((0, 1, False),), -5, 5),
                                (((0, 2, True), (1, 2, True)), 0, 99), (((3, GREAT, True),) * 28 + ((0, 7, False),) * 12, 0, MOST)):
            self.certifies(("left", asks, low, high, count_left(asks, low, high)), certify_left, asks, low, high)
        for wrong in NO_TUPLES:
            self.refuses(InvalidAsks(None), certify_left, wrong, 0, 9)
        for wrong in NO_FACTS + ((0, 2), (0, 2, 1)):
            self.refuses(InvalidAsks(1), certify_left, ((0, 2, True), wrong), 0, 9)
        self.refuses(InvalidAsks(12), certify_left, ((0, 2, False),) * 13, 0, 9)
        self.refuses(InvalidAsks(40), certify_left, ((0, 2, True),) * 41, 0, 9)
        for wrong in NO_NUMBERS:
            self.refuses(InvalidNumber(wrong), certify_left, ASKS, wrong, 9)
            self.refuses(InvalidNumber(wrong), certify_left, ASKS, 0, wrong)
        self.refuses(InvalidNumber(8), certify_left, ASKS, 9, 8)
        self.refuses_in_order(certify_left, (ASKS, None, InvalidAsks(None)), (0, "0", InvalidNumber("0")),
                              (9, None, InvalidNumber(None)))


class Sums(Certificates):
    def test_same_and_unlike(self):
        chance = random.Random(103)
        sums = list(some_sums(104, 40, 4, 6))
        for _ in range(200):
            one, other = chance.choice(sums), chance.choice(sums)
            for base in (1, chance.randint(1, 12), BASE, PRIME):
                word = "same" if same_by(one, other, base) else "unlike"
                self.certifies((word, one, other, base), certify_same, one, other, base)
        self.certifies(("same", (0, BASE), (0,), BASE), certify_same, (0, BASE), (0,), BASE)
        for wrong in NO_SUMS:
            self.refuses(InvalidSum(wrong), certify_same, wrong, SQUARE, 5)
            self.refuses(InvalidSum(wrong), certify_same, SQUARE, wrong, 5)
        for wrong in NO_BASES:
            self.refuses(InvalidNumber(wrong), certify_same, SQUARE, LINE, wrong)
        self.refuses_in_order(certify_same, (SQUARE, None, InvalidSum(None)), (LINE, (), InvalidSum(())),
                              (5, 0, InvalidNumber(0)))

    def test_turns(self):
        for terms in some_sums(105, 150, 5, 9):
            for base in (1, 2, 3, 4, 5, 7, 8, 9, 12, 16, 27, 60, 997, 2 ** 39, 6 ** 15, 30 ** 8, 997 ** 4):
                word = "turns" if turns(terms, base) else "not turning"
                self.certifies((word, terms, base), certify_turns, terms, base)
        # By 2 it turns, but by 4 its slope is divided; by 3 it does not, but its slope is nowhere divided.
        for terms, base, word in (((0, 1, 1, 1), 4, "not turning"), ((0, 1, 2), 4, "turns"), ((0, 0, 0, 1), 9, "not turning"),
                                  ((0, 0, 0, 1), 5, "turns"), ((0, 0, 0, 1), 25, "not turning"), ((0, 0, 0, 1), 3, "turns"),
                                  ((0, 2, 0, 1), 3, "not turning"), ((0, 2, 0, 1), 81, "not turning"),
                                  ((0, 2, 0, 1), 10 * 81, "not turning"), ((0, 0, 1), 1, "turns"), (LINE, BASE, "turns")):
            self.certifies((word, terms, base), certify_turns, terms, base)

    def test_turns_with_great_primes(self):
        for base, prime in ((1009, 1009), (2018, 1009), (1009 * 1013, 1009), (PRIME, PRIME), (4 * 10007, 10007)):
            self.refuses(TooGreat(prime), certify_turns, LINE, base)
            self.refuses(TooGreat(prime), certify_turns, SQUARE, base)
        for wrong in NO_SUMS:
            self.refuses(InvalidSum(wrong), certify_turns, wrong, 1009)
        for wrong in NO_BASES:
            self.refuses(InvalidNumber(wrong), certify_turns, SQUARE, wrong)
        self.refuses_in_order(certify_turns, (LINE, [0, 1], InvalidSum([0, 1])), (5, True, InvalidNumber(True)))

    def test_zeros(self):
        for terms in some_sums(106, 60, 5, 9):
            if terms != (0,):
                for prime, often in ((2, 0), (2, 1), (2, 9), (3, 4), (997, 1), (5, 1000)):
                    wanted = ("zeros", terms, prime, often, count_by_power(terms, prime, often))
                    self.certifies(wanted, certify_zeros, terms, prime, often)
        for wrong in NO_SUMS + ((0,),):
            self.refuses(InvalidSum(wrong), certify_zeros, wrong, 5, 1)
        for wrong in NO_PRIMES:
            self.refuses(InvalidPrime(wrong), certify_zeros, LINE, wrong, 1)
        for wrong in NO_INTEGERS + (-1, 1001):
            self.refuses(InvalidNumber(wrong), certify_zeros, LINE, 5, wrong)
        self.refuses_in_order(certify_zeros, (LINE, (0,), InvalidSum((0,))), (5, 4, InvalidPrime(4)), (0, -1, InvalidNumber(-1)))

    def first_endless(self, terms, prime, often):
        """The rest of the first one that is not manifold, or is an integer."""
        power = prime ** often
        whole = {number % prime ** 200 for number in whole_zeros(terms)}
        told = endless(terms, prime, 200)
        rests = [rest % power for rest, manifold, _ in told if manifold == 1 or rest in whole]
        return min(rests) if rests else None

    def test_endless(self):
        chance = random.Random(107)
        for terms in some_sums(108, 150, 5, 6):
            if terms == (0,):
                continue
            for prime, often in ((2, 1), (2, 7), (3, 3), (5, 1), (7, 60), (chance.choice((2, 3, 5)), chance.randint(1, 60))):
                rest = self.first_endless(terms, prime, often)
                if rest is None:
                    self.tells(None, certify_endless, terms, prime, often)
                else:
                    self.certifies(("endless", terms, prime, often, rest), certify_endless, terms, prime, often)

    def test_endless_ones_that_are_manifold(self):
        # Those of (x * x + 1) ** 2 at 5 are manifold, and no integers; those of x ** 2 are manifold integers.
        self.tells(None, certify_endless, (1, 0, 2, 0, 1), 5, 3)
        self.assertEqual(self.certifies(("endless", SQUARE, 5, 3, 0), certify_endless, SQUARE, 5, 3), 0)
        self.certifies(("endless", PLUS, 5, 1, 2), certify_endless, PLUS, 5, 1)
        self.tells(None, certify_endless, PLUS, 3, 1)
        self.tells(None, certify_endless, (7,), 7, 60)
        # (x + 1) ** 2 * (x * x - 17): the integer -1 is manifold, the other two are none.
        self.certifies(("endless", (-17, -34, -16, 2, 1), 2, 2, 1), certify_endless, (-17, -34, -16, 2, 1), 2, 2)
        self.certifies(("endless", (1, 2, 1), 997, 60, 997 ** 60 - 1), certify_endless, (1, 2, 1), 997, 60)
        # The two lie near to one another, and deep.
        self.certifies(("endless", (-3 ** 20, 0, 1), 3, 60, 3 ** 10), certify_endless, (-3 ** 20, 0, 1), 3, 60)
        self.certifies(("endless", (-17 * 4 ** 9, 0, 1), 2, 9, 0), certify_endless, (-17 * 4 ** 9, 0, 1), 2, 9)

    def test_wrong_arguments_of_endless(self):
        for wrong in NO_SUMS + ((0,),):
            self.refuses(InvalidSum(wrong), certify_endless, wrong, 5, 1)
        for wrong in NO_PRIMES:
            self.refuses(InvalidPrime(wrong), certify_endless, LINE, wrong, 1)
        for wrong in NO_INTEGERS + (-1, 0, 61, 1000):
            self.refuses(InvalidNumber(wrong), certify_endless, LINE, 5, wrong)
        self.refuses_in_order(certify_endless, (LINE, (0,), InvalidSum((0,))), (5, 4, InvalidPrime(4)), (60, 61, InvalidNumber(61)))


class Powers(Certificates):
    def test_orders(self):
        for base in list(range(1, 60)) + [720, 997 ** 4, 2 ** 39, 10 ** 12 - 11, PRIME, 999983 * 999979]:
            for number in (1, -1, 7, 13, MOST - 1, 3 - MOST):
                if gcd(number, base) == 1:
                    wanted = ("order", number, base, order(number, base))
                    self.certifies(wanted, certify_order, number, base)
                else:
                    self.refuses(NotOpen(number), certify_order, number, base)
        for wrong in NO_NUMBERS:
            self.refuses(InvalidNumber(wrong), certify_order, wrong, 7)
        for wrong in NO_BASES:
            self.refuses(InvalidNumber(wrong), certify_order, 0, wrong)
        self.refuses_in_order(certify_order, (0, MOST + 1, InvalidNumber(MOST + 1)), (1, 0, InvalidNumber(0)))

    def test_leaders(self):
        for base in list(range(1, 120)) + [2 * 997 ** 2, 997 ** 4, 2 ** 39, PRIME, 2 * 999983, BASE]:
            number = leader(base)
            if number is None:
                self.tells(None, certify_leader, base)
            else:
                paper = self.certifies(("leader", number, base), certify_leader, base)
                self.assertEqual(len(paper), 2)
                self.assertIs(accepts(("order", number, base, count_open(base)), paper[1]), True)
        for wrong in NO_BASES:
            self.refuses(InvalidNumber(wrong), certify_leader, wrong)

    def test_no_roots(self):
        for base in range(1, 65):
            for number in range(base):
                for power in (1, 2, 3, 4, 6, 12):
                    if gcd(number, base) > 1:
                        self.refuses(NotOpen(number), certify_no_root, number, power, base)
                    elif roots(number, power, base):
                        self.assertIs(certify_no_root(number, power, base), None)
                    else:
                        claim, paper = certify_no_root(number, power, base)
                        self.assertEqual(claim, ("no root", number, power, base))
                        self.assertIs(accepts(claim, paper), True)

    def test_no_roots_by_powers_of_two(self):
        for base in (128, 256, 1024):
            for number in range(1, base, 2):
                for power in (1, 2, 3, 4, 6, 8, 16, 64, 256, MOST):
                    if power <= 256:
                        has_root = bool(roots(number, power, base))
                    else:
                        has_root = number == 1
                    told = certify_no_root(number, power, base)
                    self.assertIs(told is None, has_root, (number, power, base))
                    if told:
                        self.assertIs(accepts(*told), True)

    def test_great_roots(self):
        self.tells(None, certify_no_root, MOST, MOST, 1)
        self.tells(None, certify_no_root, 1, MOST, BASE)
        self.tells(None, certify_no_root, 7, 3, PRIME)
        self.certifies(("no root", 7, 2, PRIME), certify_no_root, 7, 2, PRIME)
        self.certifies(("no root", MOST - 1, 2, BASE), certify_no_root, MOST - 1, 2, BASE)
        self.certifies(("no root", 3, 4, 2 ** 39), certify_no_root, 3, 4, 2 ** 39)
        self.tells(None, certify_no_root, 3, 5, 2 ** 39)

    def test_wrong_arguments_of_roots(self):
        for wrong in NO_NUMBERS:
            self.refuses(InvalidNumber(wrong), certify_no_root, wrong, 2, 5)
        for wrong in NO_INTEGERS + (0, -1, MOST + 1):
            self.refuses(InvalidNumber(wrong), certify_no_root, 2, wrong, 5)
        for wrong in NO_BASES:
            self.refuses(InvalidNumber(wrong), certify_no_root, 2, 2, wrong)
        self.refuses(NotOpen(0), certify_no_root, 0, 2, 5)
        self.refuses(NotOpen(-6), certify_no_root, -6, 2, 9)
        self.refuses_in_order(certify_no_root, (0, "0", InvalidNumber("0")), (2, 0, InvalidNumber(0)), (1, -1, InvalidNumber(-1)))


class Runs(Certificates):
    def test_rounds(self):
        chance = random.Random(109)
        for _ in range(200):
            most = chance.choice((2, 9, BIG))
            run = tuple(chance.randint(-most, most) for _ in range(4))
            for base in (1, chance.randint(1, 60), chance.choice((10 ** 6, 997 ** 4, 2 ** 39, 3 ** 25, 999983, 720720, BASE))):
                wanted = ("round", run, base) + tail_and_round_of(run, base)
                self.certifies(wanted, certify_round, run, base)
        self.certifies(("round", (0, 4, 1, 1), 8, 4, 1), certify_round, (0, 4, 1, 1), 8)

    def test_wrong_arguments_of_rounds(self):
        self.refuses(TooGreat(1000003), certify_round, FIB, 1000003 * 5)
        self.refuses(TooGreat(PRIME), certify_round, (0, 0, 0, 0), PRIME)
        for wrong in NO_TUPLES + ((), (1, 1, 0), (True, 1, 0, 1), (BIG + 1, 1, 0, 1)):
            self.refuses(InvalidRun(wrong), certify_round, wrong, 1000003)
        for wrong in NO_BASES:
            self.refuses(InvalidNumber(wrong), certify_round, FIB, wrong)
        self.refuses_in_order(certify_round, (FIB, list(FIB), InvalidRun(list(FIB))), (5, 0, InvalidNumber(0)))

    def test_entries(self):
        chance = random.Random(110)
        for _ in range(300):
            most = chance.choice((2, 9, BIG))
            first, second = chance.randint(-most, most), chance.randint(-most, most)
            base = chance.choice((1, chance.randint(1, 60), chance.randint(1, 10 ** 5), 997 ** 4, 3 ** 25, 999983, BASE))
            if gcd(second, base) > 1:
                self.refuses(NotOpen(second), certify_entry, first, second, base)
            else:
                wanted = ("entry", first, second, base, entry(first, second, base))
                self.certifies(wanted, certify_entry, first, second, base)
        self.certifies(("entry", 1, 1, 10, 15), certify_entry, 1, 1, 10)

    def test_wrong_arguments_of_entries(self):
        for wrong in NO_INTEGERS + (BIG + 1, -BIG - 1):
            self.refuses(InvalidNumber(wrong), certify_entry, wrong, 1, 5)
            self.refuses(InvalidNumber(wrong), certify_entry, 1, wrong, 5)
        for wrong in NO_BASES:
            self.refuses(InvalidNumber(wrong), certify_entry, 1, 1, wrong)
        self.refuses(NotOpen(1000003), certify_entry, 1, 1000003, 1000003)
        self.refuses(TooGreat(1000003), certify_entry, 1, 1, 1000003)
        self.refuses_in_order(certify_entry, (1, None, InvalidNumber(None)), (1, "1", InvalidNumber("1")), (5, 0, InvalidNumber(0)))


class Gaps(Certificates):
    def test_against_circles(self):
        chance = random.Random(111)
        for _ in range(150):
            most = chance.choice((6, 15, 60, 200))
            values = tuple(sorted(chance.sample(range(1, most + 8), chance.randint(1, 8))))
            gap = greatest_gap(circle_of(values))
            if gap is None:
                self.tells(None, certify_gap, values)
            else:
                self.certifies(("gap", values, gap), certify_gap, values)

    def test_edges(self):
        for values in ((1,), (1, 2), (2,), (2, 4), (6, 10, 14), (1000,), (500, 1000), (1, 1000)):
            self.tells(None, certify_gap, values)
        self.certifies(("gap", (2, 3), 1), certify_gap, (2, 3))
        self.certifies(("gap", (3, 5), 7), certify_gap, (3, 5))
        self.certifies(("gap", (6, 10, 15), 29), certify_gap, (6, 10, 15))
        self.certifies(("gap", (999, 1000), 998 * 1000 - 999), certify_gap, (999, 1000))
        eight = tuple(range(993, 1001))
        self.certifies(("gap", eight, greatest_gap(circle_of(eight))), certify_gap, eight)
        self.certifies(("gap", (2, 999), 997), certify_gap, (2, 999))

    def test_wrong_values(self):
        for wrong in NO_TUPLES + ((),):
            self.refuses(InvalidValues(None), certify_gap, wrong)
        for wrong in NO_INTEGERS + (0, -1, 1001, 5, 4):
            self.refuses(InvalidValues(2), certify_gap, (3, 5, wrong, wrong))
        for wrong in NO_INTEGERS + (0, -1, 1001):
            self.refuses(InvalidValues(0), certify_gap, (wrong,))
        self.refuses(InvalidValues(8), certify_gap, tuple(range(3, 12)))
        self.refuses(InvalidValues(8), certify_gap, tuple(range(3, 11)) + (None, None))
        self.certifies(("gap", tuple(range(3, 11)), 2), certify_gap, tuple(range(3, 11)))

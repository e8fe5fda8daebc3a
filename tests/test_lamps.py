"""restworld.lamps."""

from fractions import Fraction
from math import lcm

from restworld.errors import InvalidFacts, InvalidIndex, InvalidNumber, NoNumber
from restworld.lamps import (
    count_dark, dark_from, dark_share, is_dark, lit_from, longest_lit, nth_dark, share_lit,
)
from tests.support import NO_FACTS, NO_INTEGERS, NO_TUPLES, Case, some_facts

TWO = ((0, 2), (0, 3))
FIVE = ((0, 2), (0, 3), (1, 4), (5, 6), (7, 12))
MOST = 10 ** 40
GREAT = 10 ** 30
PRIMES = (2, 3, 5, 7, 11, 13, 17, 19, 23, 29, 31, 37)
HALVES = tuple((2 ** k - 1, 2 ** (k + 1)) for k in range(12))
NO_NUMBERS = NO_INTEGERS + (MOST + 1, -MOST - 1)
ALL = ((is_dark, 0), (count_dark, 0, 1), (dark_from, 0), (nth_dark, 0, 0), (dark_share,), (share_lit, 0),
       (longest_lit,), (lit_from, 0))


def whole(lamps):
    return lcm(*[base for _, base in lamps])


def lit_at(lamps, number):
    return sum(number % base == rest for rest, base in lamps)


def pair(fraction):
    return fraction.numerator, fraction.denominator


def longest_of(lamps):
    """The longest lit stretch of lamps that do not cover, from looking at all numbers."""
    longest = now = 0
    for number in range(2 * whole(lamps)):
        now = now + 1 if lit_at(lamps, number) else 0
        longest = max(longest, now)
    return longest


class Examples(Case):
    def test_examples_of_the_document(self):
        told = [is_dark(TWO, 5), count_dark(TWO, 0, 11), dark_from(TWO, 2), nth_dark(TWO, 0, 10 ** 20)]
        self.assertEqual(told, [True, 4, 5, 300000000000000000001])
        told = [dark_share(TWO), share_lit(TWO, 2), longest_lit(TWO), longest_lit(()), is_dark(TWO, lit_from(TWO, 3))]
        self.assertEqual(told, [(1, 3), (1, 6), 3, 0, False])
        self.assertEqual([lit_from(TWO, 4), dark_from(FIVE, 0), longest_lit(FIVE)], [None, None, None])
        self.assertEqual(dark_share(FIVE[:4]), (1, 12))
        self.refuses(NoNumber(), nth_dark, FIVE, 0, 0)


class SmallLamps(Case):
    def test_against_looking_at_all_numbers(self):
        covering = 0
        for lamps in some_facts(4, 6, 10, 250):
            around = whole(lamps)
            lit = [lit_at(lamps, x) for x in range(around)]
            self.assertEqual(dark_share(lamps), pair(Fraction(lit.count(0), around)))
            for many in range(13):
                self.assertEqual(share_lit(lamps, many), pair(Fraction(lit.count(many), around)))
            for low, high in ((-9, -1), (0, 0), (-around, around), (5, 100)):
                dark = [x for x in range(low, high + 1) if not lit[x % around]]
                self.assertEqual(count_dark(lamps, low, high), len(dark))
                if 0 not in lit:
                    covering += 1
                    self.assertIsNone(dark_from(lamps, low))
                    self.refuses(NoNumber(), nth_dark, lamps, low, 0)
                for index, number in enumerate(dark[:40]):
                    self.assertEqual(nth_dark(lamps, low, index), number)
                self.assertEqual([dark_from(lamps, low)][:len(dark)], dark[:1])
            for x in range(-12, 12):
                self.assertIs(is_dark(lamps, x), not lit[x % around])
        self.assertGreater(covering, 50)

    def test_stretches_against_looking_at_all_numbers(self):
        for seed, many, most in ((5, 6, 10), (6, 8, 16), (7, 3, 40), (8, 12, 12)):
            for lamps in some_facts(seed, many, most, 60):
                if whole(lamps) > 50000:
                    continue
                longest = None if 0 not in [lit_at(lamps, x) for x in range(whole(lamps))] else longest_of(lamps)
                self.assertEqual(longest_lit(lamps), longest)
                for many_lit in (0, 1, 2, 3, 5, 8, 13) + ((longest, longest + 1) if longest is not None else ()):
                    start = lit_from(lamps, many_lit)
                    self.assertIs(start is None, longest is not None and many_lit > longest)
                    if start is not None:
                        self.assertTrue(all(lit_at(lamps, start + k) for k in range(many_lit)))


class Edges(Case):
    def test_no_lamps(self):
        self.tells(True, is_dark, (), MOST)
        self.tells(2 * MOST + 1, count_dark, (), -MOST, MOST)
        self.tells(-MOST, dark_from, (), -MOST)
        self.tells(2 * MOST, nth_dark, (), MOST, MOST)
        self.tells((1, 1), dark_share, ())
        self.tells((1, 1), share_lit, (), 0)
        self.tells((0, 1), share_lit, (), 1)
        self.tells((0, 1), share_lit, (), 12)
        self.tells(0, longest_lit, ())
        self.assertIs(type(self.ask(lit_from, (), 0)), int)
        self.tells(None, lit_from, (), 1)

    def test_lamps_that_cover(self):
        for lamps in (((0, 1),), FIVE, HALVES[:11] + ((2 ** 11 - 1, 2 ** 11),), ((0, 1),) * 12, ((0, GREAT), (0, 1))):
            self.tells(False, is_dark, lamps, -7)
            self.tells(0, count_dark, lamps, -MOST, MOST)
            self.tells(None, dark_from, lamps, MOST)
            self.refuses(NoNumber(), nth_dark, lamps, -MOST, MOST)
            self.tells((0, 1), dark_share, lamps)
            self.tells((0, 1), share_lit, lamps, 0)
            self.tells(None, longest_lit, lamps)
            for many in (0, 1, 5000, 10 ** 6):
                self.assertIs(type(self.ask(lit_from, lamps, many)), int)

    def test_one_lamp_twice(self):
        lamps = ((1, 3), (1, 3))
        self.tells((2, 3), dark_share, lamps)
        self.tells((0, 1), share_lit, lamps, 1)
        self.tells((1, 3), share_lit, lamps, 2)
        self.tells(1, longest_lit, lamps)
        self.tells(None, lit_from, lamps, 2)
        self.tells(2, count_dark, lamps, 0, 2)
        self.tells(1, longest_lit, ((0, 5),) * 12)

    def test_lamps_within_others(self):
        self.tells(1, longest_lit, ((0, 2), (0, 4), (2, 8), (0, 6), (4, 10)))
        self.tells(3, longest_lit, ((0, 2), (0, 4), (2, 8), (1, 6), (1, 12)))

    def test_the_longest_stretch_that_twelve_lamps_can_leave(self):
        self.tells(4095, longest_lit, HALVES)
        self.tells(None, lit_from, HALVES, 4096)
        start = self.ask(lit_from, HALVES, 4095)
        self.assertTrue(all(lit_at(HALVES, start + k) for k in range(4095)))
        self.tells(4095, dark_from, HALVES, 0)
        self.tells(4095, nth_dark, HALVES, -4096, 1)
        self.tells((1, 4096), dark_share, HALVES)
        mended = HALVES[:11] + ((2 ** 11 - 1, 2 ** 11 * 10007),)
        self.tells(4095, longest_lit, mended)
        self.tells(3071, longest_lit, HALVES[:10] + ((2 ** 10 - 1, 2 ** 10 * 10007), (2 ** 10 - 1, 2 ** 10 * 10009)))

    def test_the_least_primes(self):
        # One less than the values of Jacobsthal's function at the products of the first primes.
        for many, longest in enumerate((0, 1, 3, 5, 9, 13, 21, 25, 33, 39, 45, 57, 65)):
            lamps = tuple((prime - 1, prime) for prime in PRIMES[:many])
            self.tells(longest, longest_lit, lamps)
            start = self.ask(lit_from, lamps, longest)
            self.assertTrue(all(lit_at(lamps, start + k) for k in range(longest)))
            self.tells(None, lit_from, lamps, longest + 1)

    def test_great_bases(self):
        lamps = tuple((k * k, base) for k, base in enumerate(range(GREAT - 11, GREAT + 1)))
        share = Fraction(1)
        for many in range(13):
            top, bottom = self.ask(share_lit, lamps, many)
            self.assertEqual(Fraction(top, bottom).denominator, bottom)
            share -= Fraction(top, bottom)
        self.assertEqual(share, 0)
        self.tells(share_lit(lamps, 0), dark_share, lamps)
        start = lit_from(lamps, longest_lit(lamps))
        self.assertTrue(all(lit_at(lamps, start + k) for k in range(longest_lit(lamps))))

    def test_great_primes_light_as_many_as_there_are(self):
        # Mersenne's primes and one of Fermat's numbers: no two have a common divisor.
        bases = (2 ** 61 - 1, 2 ** 89 - 1, 2 ** 31 - 1, 2 ** 19 - 1, 2 ** 17 - 1, 2 ** 64 + 1, 2 ** 13 - 1, 10 ** 30)
        lamps = tuple((base // 2, base) for base in bases)
        self.tells(8, longest_lit, lamps)
        start = self.ask(lit_from, lamps, 8)
        self.assertTrue(all(lit_at(lamps, start + k) for k in range(8)))
        self.tells(None, lit_from, lamps, 9)

    def test_linked_great_bases(self):
        prime = 2 ** 89 - 1
        self.tells(2, longest_lit, ((5, prime), (6, 2 * prime), (9, 3 * prime)))
        self.tells(3, longest_lit, ((5, prime), (6, 2 * prime), (7, 3 * prime)))
        self.tells(1, longest_lit, tuple((2 * k, 10 ** 29 * (k % 9 + 1)) for k in range(12)))
        self.tells(3, longest_lit, tuple((k // 11, 2 * (2 ** 80 + k)) for k in range(12)))

    def test_great_indexes(self):
        lamps = ((0, 2), (0, 3), (0, 5), (0, GREAT))
        for number in (-MOST, -1, 0, MOST):
            for index in (0, 1, 10 ** 12, MOST):
                dark = self.ask(nth_dark, lamps, number, index)
                self.assertEqual(lit_at(lamps, dark), 0)
                if dark <= MOST:
                    self.tells(index + 1, count_dark, lamps, number, dark)
                    self.tells(dark, dark_from, lamps, dark)
        self.tells(MOST * 4096 + 4095, nth_dark, HALVES, 0, MOST)

    def test_numbers_at_the_limits(self):
        self.tells(MOST + 1, dark_from, TWO, MOST)
        self.tells(1 - MOST, dark_from, ((0, 2),), -MOST)
        self.tells(True, is_dark, ((0, 3),), -MOST)
        self.tells(False, is_dark, ((0, GREAT),), MOST)
        self.tells(MOST, count_dark, ((0, 2),), -MOST, MOST)
        self.tells(0, count_dark, ((0, 2),), MOST, MOST)

    def test_many_at_its_bounds(self):
        twelve = ((0, 1),) * 11 + ((0, 2),)
        self.tells((1, 2), share_lit, twelve, 12)
        self.tells((1, 2), share_lit, twelve, 11)
        self.tells(None, lit_from, HALVES, 10 ** 6)
        for wrong in NO_INTEGERS + (-1, 13, MOST):
            self.refuses(InvalidNumber(wrong), share_lit, TWO, wrong)
        for wrong in NO_INTEGERS + (-1, 10 ** 6 + 1, MOST):
            self.refuses(InvalidNumber(wrong), lit_from, TWO, wrong)


class Wrong(Case):
    def test_lamps(self):
        for function, *others in ALL:
            for wrong in NO_TUPLES:
                self.refuses(InvalidFacts(None), function, wrong, *others)
            for wrong in NO_FACTS:
                self.refuses(InvalidFacts(1), function, ((0, 2), wrong, wrong), *others)
            self.refuses(InvalidFacts(12), function, ((0, 2),) * 13, *others)
            self.refuses(InvalidFacts(12), function, ((0, 2),) * 12 + (None, None), *others)
            self.refuses(InvalidFacts(11), function, ((0, 2),) * 11 + (None, None), *others)

    def test_numbers(self):
        for wrong in NO_NUMBERS:
            self.refuses(InvalidNumber(wrong), is_dark, TWO, wrong)
            self.refuses(InvalidNumber(wrong), count_dark, TWO, wrong, MOST)
            self.refuses(InvalidNumber(wrong), count_dark, TWO, 0, wrong)
            self.refuses(InvalidNumber(wrong), dark_from, TWO, wrong)
            self.refuses(InvalidNumber(wrong), nth_dark, TWO, wrong, 0)
        self.refuses(InvalidNumber(-1), count_dark, TWO, 0, -1)
        for wrong in NO_INTEGERS + (-1, MOST + 1):
            self.refuses(InvalidIndex(wrong), nth_dark, TWO, 0, wrong)

    def test_several_wrong_arguments(self):
        lamps, number = (TWO, ((0, 2), (2, 2)), InvalidFacts(1)), (0, True, InvalidNumber(True))
        self.refuses_in_order(is_dark, lamps, number)
        self.refuses_in_order(dark_from, lamps, number)
        self.refuses_in_order(count_dark, lamps, number, (1, -1, InvalidNumber(-1)))
        self.refuses_in_order(nth_dark, lamps, number, (0, -1, InvalidIndex(-1)))
        self.refuses_in_order(share_lit, lamps, (0, 13, InvalidNumber(13)))
        self.refuses_in_order(lit_from, lamps, (0, -1, InvalidNumber(-1)))

    def test_no_number_comes_last(self):
        self.refuses(InvalidNumber(None), nth_dark, FIVE, None, -1)
        self.refuses(InvalidIndex(-1), nth_dark, FIVE, 0, -1)
        self.refuses(InvalidFacts(5), nth_dark, FIVE + (None,), 0, 0)
        self.refuses(InvalidNumber(-1), lit_from, FIVE, -1)

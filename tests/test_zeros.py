"""restworld.zeros."""

from math import prod

from restworld.errors import InvalidNumber, InvalidSum, TooGreat, TooMany
from restworld.zeros import barring, count_zeros, is_zero, whole_zeros, zeros
from tests.support import MOST_TERM, NO_BASES, NO_INTEGERS, NO_NUMBERS, NO_SUMS, Case, some_sums, value_of

ONES, PLUS = (-1, 0, 1), (1, 0, 1)
MOST = 10 ** 40
GREAT = 999999999989


def of_zeros(*numbers):
    """The product of all x - number."""
    terms = (1,)
    for number in numbers:
        terms = tuple(x - number * y for x, y in zip((0,) + terms, terms + (0,)))
    return terms


def zeros_of(terms, base):
    """All zeros, looked for at each rest."""
    return tuple(number for number in range(base) if value_of(terms, number) % base == 0)


class Examples(Case):
    def test_examples_of_the_document(self):
        told = [is_zero(ONES, 7, 8), zeros(ONES, 8), count_zeros(ONES, 24), count_zeros(ONES, 10 ** 12)]
        self.assertEqual(told, [True, (1, 3, 5, 7), 8, 8])
        told = [zeros(PLUS, 25), barring(PLUS, 50), barring(ONES, 1000), whole_zeros((-6, 11, -6, 1))]
        self.assertEqual(told, [(7, 18), 3, None, (1, 2, 3)])
        self.assertEqual(whole_zeros((0, 0, -7, 0, 1)), (0,))


class Small(Case):
    def test_small_bases(self):
        sums = list(some_sums(31, 40, 6, 20)) + [ONES, PLUS, (0,), (0, 1), (0, 0, 0, 1), (6,), (-8, 0, 0, 1), (4, 8, 4)]
        sums += [of_zeros(1, 1, 4), of_zeros(0, 2, 4, 6), of_zeros(3, 3, 3, 3), (0, 6, 12), (9, 0, 27, 81)]
        for base in list(range(1, 41)) + [49, 64, 81, 90, 96, 125, 128, 243, 256, 360]:
            for terms in sums:
                wanted = zeros_of(terms, base)
                self.assertEqual(zeros(terms, base), wanted, (terms, base))
                self.assertEqual(count_zeros(terms, base), len(wanted))

    def test_is_zero(self):
        for base in (1, 2, 8, 15):
            for terms in (ONES, PLUS, (0,), (5,), (3, 0, 0, 2)):
                for number in range(-20, 20):
                    self.assertIs(is_zero(terms, number, base), value_of(terms, number) % base == 0)
        self.tells(True, is_zero, ONES, MOST - 1, 10 ** 12)
        self.tells(True, is_zero, ONES, -MOST - 1 + 10 ** 12, 10 ** 12)
        self.tells(False, is_zero, ONES, -MOST, 10 ** 12)
        self.tells(True, is_zero, (0,), -MOST, GREAT)
        self.tells(False, is_zero, (1,), MOST, GREAT)


class Counts(Case):
    def test_no_zero_and_each_rest_a_zero(self):
        self.tells((), zeros, (1,), 7)
        self.tells(0, count_zeros, (1,), 10 ** 12)
        self.tells((), zeros, PLUS, 3)
        self.tells((), zeros, PLUS, 3 * 5 ** 6)
        self.tells(tuple(range(12)), zeros, (0,), 12)
        self.tells(tuple(range(12)), zeros, (0, 12), 12)
        self.tells(tuple(range(6)), zeros, (0, -1, 0, 1), 6)
        self.tells((0,), zeros, (5, 7), 1)
        self.tells((0,), zeros, (0,), 1)
        self.tells(1, count_zeros, (5, 7), 1)

    def test_more_than_can_be_listed(self):
        self.tells(tuple(range(5000)), zeros, (0,), 5000)
        self.refuses(TooMany(5000), zeros, (0,), 5005)
        self.tells(5005, count_zeros, (0,), 5005)
        self.tells(10 ** 12, count_zeros, (0,), 10 ** 12)
        self.refuses(TooMany(5000), zeros, (0, 10 ** 12), 10 ** 12)
        self.tells(tuple(range(0, 10 ** 6, 1000)), zeros, (0, 0, 1), 10 ** 6)
        self.tells(tuple(range(0, 25 * 10 ** 6, 5000)), zeros, (0, 0, 1), 25 * 10 ** 6)
        self.refuses(TooMany(5000), zeros, (0, 0, 1), 10 ** 8)
        self.tells(10 ** 6, count_zeros, (0, 0, 1), 10 ** 12)
        self.tells(10 ** 10, count_zeros, (0,) * 6 + (1,), 10 ** 12)

    def test_great_bases(self):
        self.tells(8, count_zeros, ONES, 10 ** 12)
        for number in zeros(ONES, 10 ** 12):
            self.assertEqual(number ** 2 % 10 ** 12, 1)
        self.tells(tuple(sorted(zeros(ONES, 10 ** 12))), zeros, ONES, 10 ** 12)
        self.assertEqual(len(set(zeros(ONES, 10 ** 12))), 8)
        base = prod((2, 3, 5, 7, 11, 13, 17, 19, 23, 29, 31))
        self.tells(2 ** 10, count_zeros, ONES, base)
        found = zeros(ONES, base)
        self.assertEqual(len(set(found)), 2 ** 10)
        self.assertTrue(all(number ** 2 % base == 1 and 0 <= number < base for number in found))
        self.assertEqual(found, tuple(sorted(found)))
        self.tells((1, 2, 3), zeros, of_zeros(1, 2, 3), 997)
        self.tells(3, count_zeros, of_zeros(1, 2, 3), 997 ** 4)

    def test_no_zero_by_one_part_and_very_many_by_another_one(self):
        for terms, base in (
            ((2 ** 30, 3 * 2 ** 30), 3 * 2 ** 30), ((2 ** 38, 3 * 2 ** 36), 3 * 2 ** 38),
            ((5 ** 10, 0, 0, 5 ** 10 * 7), 7 * 5 ** 10), ((997 ** 3, 997 ** 3 * 2), 2 * 997 ** 3),
            ((2 ** 12 * 3 ** 8, 0, 0, 5 * 2 ** 12 * 3 ** 8), 5 * 2 ** 12 * 3 ** 8),
        ):
            self.tells(0, count_zeros, terms, base)
            self.tells((), zeros, terms, base)
        self.tells(2 ** 30, count_zeros, (2 ** 30, 3 * 2 ** 30), 2 ** 30)
        # The primes are looked at ahead of how many zeros there are.
        self.refuses(TooGreat(1009), zeros, (2 ** 20, 1009 * 2 ** 20), 1009 * 2 ** 20)

    def test_zeros_that_stay_together_for_long(self):
        for numbers in ((0, 2 ** 10), (1, 1 + 2 ** 20), (5, 5, 5 + 2 ** 6), (0, 3 ** 4, 2 * 3 ** 4)):
            terms = of_zeros(*numbers)
            for base in (2 ** 12, 3 ** 8, 6 ** 5):
                wanted = zeros_of(terms, base)
                self.tells(len(wanted), count_zeros, terms, base)
                if len(wanted) <= 5000:
                    self.tells(wanted, zeros, terms, base)

    def test_great_primes_in_the_base(self):
        for base, prime in ((1009, 1009), (6 * 1009, 1009), (1013 * 1009, 1009), (GREAT, GREAT), (5 * 999983, 999983)):
            for terms in (ONES, (0,), (1,)):
                self.refuses(TooGreat(prime), count_zeros, terms, base)
                self.refuses(TooGreat(prime), zeros, terms, base)
        self.tells((1, 996), zeros, ONES, 997)


class Barring(Case):
    def test_some_sums(self):
        for terms in list(some_sums(41, 60, 4, 30)) + [(0,), (1,), (2,), (30,), (-16, 0, 0, 0, 0, 0, 0, 0, 1)]:
            wanted = next((base for base in range(2, 120) if not zeros_of(terms, base)), None)
            self.tells(wanted, barring, terms, 119)
            if wanted is not None:
                self.tells(wanted, barring, terms, wanted)
                self.tells(None, barring, terms, wanted - 1)

    def test_at_its_bounds(self):
        self.tells(None, barring, (1,), 1)
        self.tells(2, barring, (1,), 2)
        self.tells(None, barring, (0,), 1000)
        self.tells(None, barring, (0, 1), 1000)
        self.tells(2, barring, (-1, 2), 1000)
        for wrong in NO_INTEGERS + (0, -1, 1001):
            self.refuses(InvalidNumber(wrong), barring, ONES, wrong)

    def test_a_base_that_bars_late(self):
        # (x ** 2 - 13) * (x ** 2 - 17) * (x ** 2 - 221) has a zero by each base, but no whole one.
        late = (-13 * 17 * 221, 0, 13 * 17 + 13 * 221 + 17 * 221, 0, -13 - 17 - 221, 0, 1)
        self.tells(None, barring, late, 1000)
        self.tells((), whole_zeros, late)
        wanted = next((base for base in range(2, 1001) if not zeros_of((1, 997), base)), None)
        self.tells(wanted, barring, (1, 997), 1000)
        self.assertEqual(wanted, 997)
        self.tells(None, barring, (1, 997), 996)
        self.tells(16, barring, (8, 16), 1000)


class WholeZeros(Case):
    def test_sums_of_known_zeros(self):
        for numbers in ((), (0,), (5,), (-5, 5), (0, 0, 3), (1, 1, 1), (-7, -2, 0, 2, 9), (1, -1, 2, -2, 3, -3, 4, -4)):
            for more in ((1,), (1, 0, 1), (-2, 0, 1), (3, 2), (-7,)):
                terms = of_zeros(*numbers)
                product = [0] * (len(terms) + len(more) - 1)
                for at, x in enumerate(terms):
                    for behind, y in enumerate(more):
                        product[at + behind] += x * y
                self.tells(tuple(sorted(set(numbers))), whole_zeros, tuple(product))

    def test_all_numbers_are_looked_at(self):
        for terms in some_sums(51, 80, 4, 12):
            if terms != (0,):
                self.assertEqual(whole_zeros(terms), tuple(x for x in range(-13, 14) if value_of(terms, x) == 0))

    def test_zeros_at_the_limits(self):
        self.tells((MOST_TERM,), whole_zeros, (-MOST_TERM, 1))
        self.tells((-MOST_TERM,), whole_zeros, (MOST_TERM, 1))
        self.tells((-MOST_TERM, 0), whole_zeros, (0, MOST_TERM, 1))
        self.tells((-10 ** 6, 10 ** 6), whole_zeros, (-MOST_TERM, 0, 1))
        self.tells((-GREAT,), whole_zeros, (GREAT, 1))
        self.tells((1,), whole_zeros, (-GREAT, GREAT))
        self.tells((-1,), whole_zeros, (1, 1))
        self.tells((), whole_zeros, (1, 2))
        self.tells((), whole_zeros, (7,))
        self.tells((0,), whole_zeros, (0,) * 12 + (MOST_TERM,))
        self.tells((), whole_zeros, (MOST_TERM,) * 13)
        self.tells((-1,), whole_zeros, (MOST_TERM,) * 12)

    def test_the_sum_that_is_nought(self):
        self.refuses(InvalidSum((0,)), whole_zeros, (0,))


class Wrong(Case):
    def test_sums(self):
        for wrong in NO_SUMS:
            self.refuses(InvalidSum(wrong), is_zero, wrong, 0, 1)
            self.refuses(InvalidSum(wrong), count_zeros, wrong, 2)
            self.refuses(InvalidSum(wrong), zeros, wrong, 2)
            self.refuses(InvalidSum(wrong), barring, wrong, 2)
            self.refuses(InvalidSum(wrong), whole_zeros, wrong)

    def test_numbers_and_bases(self):
        for wrong in NO_NUMBERS:
            self.refuses(InvalidNumber(wrong), is_zero, (1,), wrong, 2)
        for wrong in NO_BASES:
            self.refuses(InvalidNumber(wrong), is_zero, (1,), 0, wrong)
            self.refuses(InvalidNumber(wrong), count_zeros, (1,), wrong)
            self.refuses(InvalidNumber(wrong), zeros, (1,), wrong)

    def test_several_wrong_arguments(self):
        terms, base = ((0, 1), [0, 1], InvalidSum([0, 1])), (7, 0, InvalidNumber(0))
        self.refuses_in_order(is_zero, terms, (0, "0", InvalidNumber("0")), base)
        for function in (count_zeros, zeros, barring):
            self.refuses_in_order(function, terms, base)
        self.refuses(InvalidSum(()), zeros, (), 1009)

    def test_what_is_told_with_last(self):
        # A great prime comes ahead of too many zeros.
        self.refuses(TooGreat(1009), zeros, (0,), 1009 * 10 ** 6)
        self.refuses(InvalidNumber(-1009), zeros, (0,), -1009)

"""restworld.endless."""

from restworld.endless import (
    above, count_by_power, count_endless, endless, first_power_without, has_all_powers, rule,
)
from restworld.errors import InvalidNumber, InvalidPrime, InvalidSum
from tests.support import MOST_TERM, NO_INTEGERS, NO_NUMBERS, NO_PRIMES, NO_SUMS, Case, some_sums, value_of

ONES, PLUS, SQUARE = (-1, 0, 1), (1, 0, 1), (0, 0, 1)
MOST = 10 ** 40
TOP = {2: 11, 3: 7, 5: 4, 7: 3}
ALL = (
    (count_by_power, (0,)), (above, (0, 0)), (count_endless, ()), (endless, (0,)), (rule, ()), (has_all_powers, ()),
    (first_power_without, ()),
)


def times(one, other):
    """The product of two sums."""
    total = [0] * (len(one) + len(other) - 1)
    for at, x in enumerate(one):
        for behind, y in enumerate(other):
            total[at + behind] += x * y
    return tuple(total)


def product_of(*sums):
    total = (1,)
    for one in sums:
        total = times(total, one)
    return total


def zeros_of(terms, base):
    return [number for number in range(base) if value_of(terms, number) % base == 0]


def often_in(number, prime):
    often = 0
    while number % prime == 0:
        number //= prime
        often += 1
    return often


def told_by_rule(pairs, prime, power):
    return sum(prime ** (power + (deep - power) // many) for deep, many in pairs)


# Sums with zeros that are manifold, near to each other, divided by the prime, or with none at all.
SUMS = (
    ONES, PLUS, SQUARE, (1,), (-6,), (0, 1), (12,), (-17, 0, 1), (-2, 0, 0, 1), (0, 8), (24, 4), (7, 0, 9), (-4, 0, 9),
    product_of((-1, 1), (-1, 1), (3, 1)), product_of((1, 1), (1, 1), (1, 1), (-8, 1)), product_of((-5, 1), (27, 1)),
    product_of((0, 1), (-16, 1), (-48, 1)), product_of((-3, 2), (-3, 2), (1, 0, 1)), product_of((2, 0, 1), (2, 0, 1)),
    product_of((-17, 0, 1), (-17, 0, 1), (-17, 0, 1)), product_of((6,), (-1, 3), (-1, 3), (2, 1)),
    product_of((-7, 0, 1), (-7, 0, 1), (0, 0, 1)), product_of((9,), (0, 1), (0, 1), (0, 1), (-9, 1), (-9, 1)),
    product_of((1, 1, 1), (1, 1, 1)), product_of((-9, 0, 1), (-1, 0, 1), (-25, 0, 1)), (-8, 0, 0, 1), (1, 4), (2, 4),
)


class Examples(Case):
    def test_examples_of_the_document(self):
        told = [count_by_power(SQUARE, 3, 5), count_by_power(ONES, 2, 1000), above(ONES, 2, 2, 1)]
        self.assertEqual(told, [9, 4, (1, 5)])
        told = [count_endless(PLUS, 5), count_endless(PLUS, 3), endless(PLUS, 5, 2), endless(ONES, 2, 1)]
        self.assertEqual(told, [2, 0, ((7, 1, 0), (18, 1, 0)), ((1, 1, 1), (1, 1, 1))])
        self.assertEqual(endless(SQUARE, 7, 3), ((0, 2, 0),))
        told = [rule(SQUARE, 3), rule(ONES, 2), rule(PLUS, 3), has_all_powers(PLUS, 5), first_power_without(PLUS, 2)]
        self.assertEqual(told, [(0, ((0, 2),)), (3, ((1, 1), (1, 1))), (1, ()), True, 2])
        self.assertEqual([first_power_without((-17, 0, 1), 2), first_power_without((-2, 0, 0, 1), 3)], [None, 2])


class Small(Case):
    def each(self):
        for terms in SUMS + tuple(some_sums(61, 40, 5, 15)):
            if terms != (0,):
                for prime, top in TOP.items():
                    yield terms, prime, top

    def test_counts_rules_and_powers_without_zeros(self):
        for terms, prime, top in self.each():
            counts = [len(zeros_of(terms, prime ** power)) for power in range(top + 1)]
            self.assertEqual([count_by_power(terms, prime, power) for power in range(top + 1)], counts, (terms, prime))
            begin, pairs = rule(terms, prime)
            self.assertEqual(pairs, tuple(sorted(pairs)))
            fitting = [told_by_rule(pairs, prime, power) == counts[power] for power in range(top + 1)]
            self.assertTrue(all(fitting[begin:]), (terms, prime))
            if 0 < begin <= top + 1:
                self.assertFalse(fitting[begin - 1], (terms, prime))
            bare = counts.index(0) if 0 in counts else None
            without = first_power_without(terms, prime)
            if bare is not None:
                self.assertEqual(without, bare)
            elif without is not None:
                self.assertGreater(without, top)
            self.assertIs(has_all_powers(terms, prime), without is None)
            self.assertEqual(without is None, len(pairs) > 0)

    def test_endless_zeros(self):
        for terms, prime, top in self.each():
            told = endless(terms, prime, 40)
            self.assertEqual(len(told), count_endless(terms, prime))
            self.assertEqual(sorted((deep, many) for _, many, deep in told), list(rule(terms, prime)[1]))
            self.assertEqual(len({rest for rest, _, _ in told}), len(told))
            for rest, many, deep in told:
                self.assertTrue(0 <= rest < prime ** 40)
                # By the definition: how often the prime divides the value near to the endless zero.
                for power in range(25, 38):
                    number = rest + prime ** power
                    self.assertEqual(often_in(value_of(terms, number), prime), deep + many * power)
            for power in range(top + 1):
                wanted = sorted((rest % prime ** power, many, deep) for rest, many, deep in told)
                self.assertEqual(endless(terms, prime, power), tuple(wanted))
            least = first_power_without(terms, prime) or top
            standing = zeros_of(terms, prime ** min(top, least))
            for rest, _, _ in told:
                self.assertIn(rest % prime ** min(top, least), standing)

    def test_above(self):
        for terms, prime, top in self.each():
            for power in range(min(top, 4)):
                further = zeros_of(terms, prime ** (power + 1))
                for number in range(-2, prime ** min(power, 2) + 2):
                    wanted = tuple(one for one in further if (one - number) % prime ** power == 0)
                    self.assertEqual(above(terms, prime, power, number), wanted)


class Kinds(Case):
    def test_whole_zeros_are_endless(self):
        terms = product_of((-5, 1), (-5, 1), (7, 1), (0, 1))
        self.tells(((0, 1, often_in(175, 7)), (5, 2, 0), (7 ** 3 - 7, 1, 1)), endless, terms, 7, 3)
        self.tells(((0, 1, 1), (0, 1, 1), (5, 2, 0)), endless, terms, 7, 1)
        self.tells(((0, 1, 0), (1, 1, 4), (1, 2, 2)), endless, terms, 2, 1)

    def test_manifold_zeros_that_are_no_integers(self):
        # 2 is a square by 7: 3 and 4 leave it.
        terms = product_of((-2, 0, 1), (-2, 0, 1), (-2, 0, 1))
        self.tells(((3, 3, 0), (4, 3, 0)), endless, terms, 7, 1)
        self.assertEqual(rule(terms, 7)[1], ((0, 3), (0, 3)))
        third = product_of((-1, 3), (-1, 3))
        self.tells((((2 ** 41 + 1) // 3 % 2 ** 40, 2, 0),), endless, third, 2, 40)
        self.tells((), endless, third, 3, 5)

    def test_several_that_leave_one_rest_for_long(self):
        near = product_of((-1, 1), (-1 - 2 ** 15, 1), (-1 - 2 ** 16, 1))
        self.tells(3, count_endless, near, 2)
        self.tells(((1, 1, 30), (1, 1, 31), (1, 1, 31)), endless, near, 2, 15)
        self.assertEqual([one[0] for one in endless(near, 2, 17)], [1, 1 + 2 ** 15, 1 + 2 ** 16])
        begin, pairs = rule(near, 2)
        self.assertEqual(pairs, ((30, 1), (31, 1), (31, 1)))
        self.assertEqual(count_by_power(near, 2, 100), told_by_rule(pairs, 2, 100))
        self.assertNotEqual(count_by_power(near, 2, begin - 1), told_by_rule(pairs, 2, begin - 1))

    def test_sums_that_the_prime_divides(self):
        self.tells(((0, 1, 5),), endless, (0, 32), 2, 3)
        self.tells((5, ((5, 1),)), rule, (0, 32), 2)
        self.tells(16, count_by_power, (0, 32), 2, 4)
        self.tells(32, count_by_power, (0, 32), 2, 1000)
        self.tells((6, ()), rule, (32,), 2)
        self.tells(6, first_power_without, (32,), 2)
        self.tells(1, first_power_without, (32,), 3)
        self.tells(((0, 12, 0),), endless, (0,) * 12 + (1,), 2, 9)

    def test_rules_that_begin_at_0_and_late(self):
        self.tells((0, ((0, 1),)), rule, (-7, 1), 5)
        self.tells((0, ((0, 12),)), rule, (0,) * 12 + (1,), 997)
        self.tells((1, ((0, 1), (0, 1))), rule, PLUS, 5)
        self.tells((1, ()), rule, (1,), 2)
        begin, pairs = rule((-(2 ** 39), 1), 2)
        self.assertEqual((begin, pairs), (0, ((0, 1),)))
        begin, pairs = rule(product_of((-(2 ** 10), 1), (-(2 ** 11), 1)), 2)
        self.assertEqual(pairs, ((10, 1), (10, 1)))
        self.assertEqual(begin, 21)
        self.tells((40, ()), rule, (2 ** 39,), 2)

    def test_negative_and_great_coefficients(self):
        most = (MOST_TERM,) * 13
        for prime in (2, 5, 997):
            begin, pairs = rule(most, prime)
            counts = [count_by_power(most, prime, power) for power in (begin, begin + 1, 999, 1000)]
            wanted = [told_by_rule(pairs, prime, power) for power in (begin, begin + 1, 999, 1000)]
            self.assertEqual(counts, wanted)
        self.tells(((5 ** 9 - 1, 1, 12),), endless, (MOST_TERM, MOST_TERM), 5, 9)


class Edges(Case):
    def test_often_at_its_bounds(self):
        self.tells(1, count_by_power, (5,), 7, 0)
        self.tells(1, count_by_power, SQUARE, 7, 0)
        self.tells(7 ** 500, count_by_power, SQUARE, 7, 1000)
        self.tells(((0, 1, 0), (0, 1, 0)), endless, PLUS, 5, 0)
        for rest, _, _ in endless(PLUS, 5, 1000):
            self.assertEqual((rest * rest + 1) % 5 ** 1000, 0)
        self.tells((0, 1, 2), above, (0, -1, 0, 1), 3, 0, 10)
        self.tells((2, 3), above, PLUS, 5, 0, MOST)
        self.assertEqual(len(above(SQUARE, 997, 1000, 0)), 997)
        self.tells((1,), above, (-1, 1), 997, 1000, 1)
        self.tells((), above, (-1, 1), 997, 1000, 2)
        self.tells((997 ** 1001 - 1,), above, (1, 1), 997, 1000, -1)
        for wrong in NO_INTEGERS + (-1, 1001, MOST):
            self.refuses(InvalidNumber(wrong), count_by_power, ONES, 2, wrong)
            self.refuses(InvalidNumber(wrong), above, ONES, 2, wrong, 1)
            self.refuses(InvalidNumber(wrong), endless, ONES, 2, wrong)

    def test_numbers_below_0_and_far_from_0(self):
        for number in (-1, -7, MOST, -MOST, 12345 - 5 ** 40):
            self.tells(above(PLUS, 5, 3, number % 125), above, PLUS, 5, 3, number)
        self.tells(above(ONES, 2, 9, 511), above, ONES, 2, 9, -1)
        self.assertEqual(above(ONES, 2, 9, 511), (511, 1023))

    def test_degree_0_and_the_prime_997(self):
        for prime in (2, 997):
            self.tells(0, count_endless, (5,), prime)
            self.tells((), endless, (5,), prime, 10)
            self.tells((1, ()), rule, (5,), prime)
            self.tells(False, has_all_powers, (5,), prime)
            self.tells(1, first_power_without, (5,), prime)
        self.tells(((1, 1, 0), (996, 1, 0)), endless, ONES, 997, 1)

    def test_a_wanted_power_that_is_far(self):
        # No square leaves the rest of 2 ** 39, but 2 ** 39 itself is divided 39 times.
        terms = (2 ** 39, 0, 1)
        self.tells(40, first_power_without, (-(2 ** 39), 0, 1), 2)
        self.tells(False, has_all_powers, terms, 2)
        self.assertEqual(count_by_power(terms, 2, first_power_without(terms, 2)), 0)
        self.assertGreater(count_by_power(terms, 2, first_power_without(terms, 2) - 1), 0)


class Wrong(Case):
    def test_sums(self):
        for wrong in NO_SUMS + ((0,),):
            for function, others in ALL:
                self.refuses(InvalidSum(wrong), function, wrong, 2, *others)

    def test_primes(self):
        for wrong in NO_PRIMES:
            for function, others in ALL:
                self.refuses(InvalidPrime(wrong), function, (1,), wrong, *others)

    def test_numbers(self):
        for wrong in NO_NUMBERS:
            self.refuses(InvalidNumber(wrong), above, (1,), 2, 1, wrong)

    def test_several_wrong_arguments(self):
        terms, prime = ((0, 1), (0,), InvalidSum((0,))), (7, 1, InvalidPrime(1))
        often, number = (3, 1001, InvalidNumber(1001)), (0, None, InvalidNumber(None))
        for function in (count_endless, rule, has_all_powers, first_power_without):
            self.refuses_in_order(function, terms, prime)
        for function in (count_by_power, endless):
            self.refuses_in_order(function, terms, prime, often)
        self.refuses_in_order(above, terms, prime, often, number)

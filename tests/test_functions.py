"""restworld.functions."""

from itertools import permutations, product
from math import factorial, gcd

from restworld.errors import InvalidNumber, InvalidRests, InvalidSum, NotTurning, TooGreat
from restworld.functions import (
    back_form, first_unlike, form_of_table, how_many, how_many_turn, is_table, least_form, least_nothing, same, turns,
)
from tests.support import MOST_TERM, NO_BASES, NO_INTEGERS, NO_SUMS, NO_TUPLES, Case, some_sums, value_of

SQUARE, MIXED = (0, 0, 1), (0, 1, 2)
NO_RESTS = NO_INTEGERS + (-1, 10 ** 40)
GREAT = 999999999989


def table(terms, base):
    """The rests at all rests, told by the definition."""
    return tuple(value_of(terms, number) % base for number in range(base))


def tables_of_all_sums(base):
    """All tables that sums leave: made of the tables of the products x * (x - 1) * .. by adding."""
    found = {(0,) * base}
    for k in range(base + 1):
        row = []
        for number in range(base):
            factor = 1
            for j in range(k):
                factor *= number - j
            row.append(factor)
        found = {tuple((x + times * y) % base for x, y in zip(one, row)) for one in found for times in range(base)}
    return found


def value_of_form(form, number):
    """The value of the sum with these steps."""
    total, factor = 0, 1
    for k, step in enumerate(form):
        total += step * factor
        factor *= number - k
    return total


class Examples(Case):
    def test_examples_of_the_document(self):
        told = [same(SQUARE, (0, 1), 2), same(SQUARE, (0, 1), 3), first_unlike(SQUARE, (0, 1), 3)]
        self.assertEqual(told, [True, False, 2])
        told = [first_unlike(SQUARE, (0, 1), 2), least_form(SQUARE, 2), least_form(MIXED, 4), how_many(4), how_many(6)]
        self.assertEqual(told, [None, (0, 1), (0, 3), 64, 108])
        self.assertEqual([least_nothing(4), least_nothing(6)], [4, 3])
        told = [is_table((0, 1, 0, 1), 4), is_table((0, 0, 1, 0), 4), form_of_table((0, 3, 2, 1), 4), turns(MIXED, 4)]
        self.assertEqual(told, [True, False, (0, 3), True])
        told = [turns(SQUARE, 3), turns(MIXED, 2 ** 30), how_many_turn(3), how_many_turn(4), how_many_turn(8)]
        self.assertEqual(told, [False, True, 6, 8, 128])
        self.assertEqual([how_many_turn(6), back_form(MIXED, 4)], [12, (0, 3)])


class TheSame(Case):
    def test_pairs_by_small_bases(self):
        sums = list(some_sums(11, 26, 6, 6)) + [(0,), (0, 1), SQUARE, MIXED, (0, 0, 0, 1), (0, -1, 0, 1)]
        for base in (1, 2, 3, 4, 6, 8, 9, 12, 25, 30):
            tables = [table(terms, base) for terms in sums]
            for one, its in zip(sums, tables):
                for other, others in zip(sums, tables):
                    unlike = [number for number in range(base) if its[number] != others[number]]
                    self.assertIs(same(one, other, base), not unlike)
                    self.assertEqual(first_unlike(one, other, base), unlike[0] if unlike else None)

    def test_sums_that_are_the_same_by_great_bases(self):
        # The value x * (x - 1) * .. * (x - 11) is divided by 1 * 2 * .. * 12.
        falling = (1,)
        for number in range(12):
            shifted = (0,) + falling
            falling = tuple(x - number * y for x, y in zip(shifted, falling + (0,)))
        base = factorial(12)
        self.tells(True, same, falling, (0,), base)
        self.tells(False, same, falling, (0,), 2 * base)
        self.tells(12, first_unlike, falling, (0,), 2 * base)
        self.tells(None, first_unlike, falling, (0,), base)
        self.tells(0, first_unlike, falling, (1,), base)
        self.tells((0,), least_form, falling, base)
        self.tells((0,) * 12 + (1,), least_form, falling, 2 * base)

    def test_coefficients_and_bases_at_the_limits(self):
        self.tells(True, same, (MOST_TERM,), (-MOST_TERM,), 10 ** 12)
        self.tells(True, same, (MOST_TERM,) * 13, (-MOST_TERM,) * 13, 10 ** 12)
        self.tells(False, same, (MOST_TERM,) * 13, (-MOST_TERM,) * 13, GREAT)
        self.tells(0, first_unlike, (MOST_TERM,) * 13, (0,), GREAT)
        self.tells(1, first_unlike, (0, 1), (0,), 10 ** 12)
        self.tells(2, first_unlike, (0, -1, 1), (0,), 10 ** 12)
        for base in (1, 10 ** 12, GREAT):
            self.tells(None, first_unlike, (5, 7), (5, 7), base)
            self.tells(True, same, (0,), (0,), base)
        self.tells(None, first_unlike, (1, 2, 3), (4, 5), 1)

    def test_small_differences_between_long_sums(self):
        one = (7, 1) + (0,) * 10 + (3,)
        for at in range(13):
            other = tuple(term + (k == at) for k, term in enumerate(one))
            self.tells(1 if at else 0, first_unlike, one, other, 10 ** 6)


class LeastForms(Case):
    def test_forms_of_many_sums(self):
        for base in (1, 2, 3, 4, 5, 6, 8, 9, 12, 16, 27, 30):
            forms = {}
            for terms in some_sums(base, 80, 7, 9):
                form = least_form(terms, base)
                for k, step in enumerate(form):
                    self.assertTrue(0 <= step < base // gcd(base, factorial(k)) or form == (0,))
                self.assertTrue(len(form) == 1 or form[-1] != 0)
                self.assertEqual([value_of_form(form, number) % base for number in range(base)],
                                 list(table(terms, base)))
                self.assertEqual(forms.setdefault(table(terms, base), form), form)

    def test_forms_at_the_edges(self):
        for base in (1, 2, 7, 10 ** 12, GREAT):
            self.tells((0,), least_form, (0,), base)
        self.tells((0,), least_form, (5, 4, 3), 1)
        self.tells((GREAT - 1,), least_form, (-1,), GREAT)
        self.tells((0, GREAT - 1), least_form, (0, -1), GREAT)
        self.tells((1, 1), least_form, (-7, 1), 2)
        self.tells((0,), least_form, (10 ** 12, 10 ** 12), 10 ** 12)
        self.tells((MOST_TERM % GREAT,), least_form, (MOST_TERM,), GREAT)
        self.assertEqual(least_form((0,) * 12 + (1,), GREAT)[12], 1)


class HowMany(Case):
    def test_all_tables_of_small_bases(self):
        for base in (1, 2, 3, 4, 5, 6, 8):
            tables = tables_of_all_sums(base)
            self.tells(len(tables), how_many, base)
            turning = [one for one in tables if len(set(one)) == base]
            self.tells(len(turning), how_many_turn, base)
            if base <= 6:
                for values in product(range(base), repeat=base):
                    self.assertIs(is_table(values, base), values in tables)
            for values in sorted(tables)[::7] + sorted(tables)[:9]:
                form = form_of_table(values, base)
                self.assertEqual(tuple(value_of_form(form, number) % base for number in range(base)), values)
                self.assertTrue(len(form) == 1 or form[-1] != 0)
                for k, step in enumerate(form):
                    self.assertTrue(0 <= step < max(base // gcd(base, factorial(k)), 1))

    def test_products_of_all_quotients(self):
        for base in (9, 10, 12, 16, 30, 36, 49, 60, 64, 97, 128, 210, 1000):
            wanted, k = 1, 0
            while factorial(k) % base:
                wanted *= base // gcd(base, factorial(k))
                k += 1
            self.tells(wanted, how_many, base)
            self.tells(k, least_nothing, base)

    def test_least_nothing(self):
        for base in range(1, 200):
            self.assertEqual(least_nothing(base), next(k for k in range(base + 1) if factorial(k) % base == 0))
        self.tells(0, least_nothing, 1)
        self.tells(2, least_nothing, 2)
        self.tells(GREAT, least_nothing, GREAT)
        self.tells(50, least_nothing, 10 ** 12)
        self.tells(999983, least_nothing, 999983)

    def test_by_powers_of_primes(self):
        for prime, often in ((2, 4), (2, 5), (3, 2), (3, 3), (5, 2), (7, 2)):
            base = prime ** often
            many = 1
            for k in range(prime * often + 1):
                many *= base // gcd(base, factorial(k))
            wanted = many * factorial(prime) * (prime - 1) ** prime // prime ** (2 * prime)
            self.tells(wanted, how_many_turn, base)
        self.tells(factorial(5) * 8, how_many_turn, 20)
        self.tells(factorial(997), how_many_turn, 997)
        self.tells(997 ** 997, how_many, 997)
        self.tells(1, how_many, 1)
        self.tells(1, how_many_turn, 1)
        self.tells(4, how_many, 2)
        self.tells(2, how_many_turn, 2)

    def test_bases_that_are_too_great_to_count(self):
        for function in (how_many, how_many_turn):
            for base in (1009, 2018, 1009 * 1013, 997 * 997, 503 * 503, 8 * 1009, GREAT, 7 ** 2 * 1013):
                self.refuses(TooGreat(base), function, base)
        self.tells(499 * 2, least_nothing, 499 ** 2)
        self.assertGreater(how_many(499 ** 2), 10 ** 2000)
        self.assertGreater(how_many_turn(10 ** 12), 10 ** 100)
        self.assertEqual(how_many_turn(2 * 997), 2 * factorial(997))


class Tables(Case):
    def test_a_table_of_one_rest(self):
        self.tells(True, is_table, (0,), 1)
        self.tells((0,), form_of_table, (0,), 1)

    def test_by_a_prime_each_table_is_one(self):
        for values in product(range(3), repeat=3):
            self.tells(True, is_table, values, 3)
        for values in permutations(range(5)):
            form = form_of_table(values, 5)
            self.assertEqual(tuple(value_of_form(form, number) % 5 for number in range(5)), values)

    def test_forms_with_more_elements_than_a_sum(self):
        self.tells((0,) * 22 + (1,), form_of_table, (0,) * 22 + (factorial(22) % 23,), 23)
        form = form_of_table((1,) + (0,) * 96, 97)
        self.assertEqual(len(form), 97)
        for number in range(97):
            self.assertEqual(value_of_form(form, number) % 97, number == 0)

    def test_tables_of_a_thousand_rests_and_of_more(self):
        square = tuple(number * number % 1000 for number in range(1000))
        self.tells(True, is_table, square, 1000)
        self.tells((0, 1, 1), form_of_table, square, 1000)
        other = square[:999] + ((square[999] + 1) % 1000,)
        self.tells(False, is_table, other, 1000)
        self.tells(None, form_of_table, other, 1000)
        for function in (is_table, form_of_table):
            for base in (1001, 10 ** 12):
                self.refuses(TooGreat(base), function, (0,) * 1001, base)
                self.refuses(TooGreat(base), function, None, base)

    def test_tables_that_no_sum_leaves(self):
        for values, base in (((0, 0, 1, 0), 4), ((0, 0, 0, 1), 4), ((0, 1, 1, 1, 0, 0), 6), ((1,) + (0,) * 7, 8)):
            self.tells(False, is_table, values, base)
            self.tells(None, form_of_table, values, base)

    def test_wrong_tables(self):
        for function in (is_table, form_of_table):
            for wrong in NO_TUPLES + ((), (0,), (0, 1), (0, 1, 2, 0), (None, None), (0, 0, 0, 9, None)):
                self.refuses(InvalidRests(None), function, wrong, 3)
            for wrong in NO_RESTS + (3,):
                self.refuses(InvalidRests(0), function, (wrong, wrong, 3), 3)
                self.refuses(InvalidRests(1), function, (2, wrong, 3), 3)
                self.refuses(InvalidRests(2), function, (0, 1, wrong), 3)
            for wrong in NO_BASES:
                self.refuses(InvalidNumber(wrong), function, (0, 1, 2), wrong)
                self.refuses(InvalidNumber(wrong), function, None, wrong)
            self.refuses(InvalidRests(0), function, (True,), 1)
            self.refuses(InvalidRests(0), function, (1,), 1)
            self.refuses(InvalidRests(999), function, (0,) * 999 + (1000,), 1000)


class Turning(Case):
    def test_turning_by_small_bases(self):
        sums = list(some_sums(21, 60, 5, 6)) + [(0, 1), MIXED, (1, 1, 2), (0, 0, 0, 1), (0, 5, 6), (3, 1, 4, 8), (0,)]
        for base in list(range(1, 50)) + [64, 81, 90, 100, 125, 343]:
            for terms in sums:
                rests = table(terms, base)
                is_turning = len(set(rests)) == base
                self.assertIs(turns(terms, base), is_turning, (terms, base))
                if base < 50:
                    self.leads_back(terms, base, rests, is_turning)

    def leads_back(self, terms, base, rests, is_turning):
        if not is_turning:
            self.refuses(NotTurning(), back_form, terms, base)
            return
        form = back_form(terms, base)
        for number in range(base):
            self.assertEqual(value_of_form(form, rests[number]) % base, number)
        self.assertTrue(len(form) == 1 or form[-1] != 0)
        for k, step in enumerate(form):
            self.assertTrue(0 <= step < max(base // gcd(base, factorial(k)), 1))

    def test_turning_by_the_prime_but_not_by_its_square(self):
        for prime, degree in ((3, 3), (5, 3), (7, 5), (997, 5)):
            power = (0,) * degree + (1,)
            self.tells(True, turns, power, prime)
            self.tells(False, turns, power, prime * prime)
            self.tells(False, turns, power, 2 * prime * prime)
        self.tells(True, turns, (0, 0, 1), 2)
        self.tells(False, turns, (0, 0, 1), 4)
        self.refuses(NotTurning(), back_form, (0, 0, 0, 1), 9)
        self.tells((0, 1), back_form, (0, 0, 0, 1), 3)

    def test_turning_by_great_bases(self):
        self.tells(True, turns, (7, 1), 10 ** 12)
        self.tells(True, turns, (7, 3), 10 ** 12)
        self.tells(False, turns, (7, 5), 10 ** 12)
        self.tells(True, turns, (1, 1, 10), 10 ** 12)
        self.tells(True, turns, (MOST_TERM, 1), 997 ** 4)
        self.tells(True, turns, (0, 1), 1)
        self.tells(True, turns, (0,), 1)
        self.tells(False, turns, (0,), 2)

    def test_great_primes_in_the_base(self):
        for base, prime in ((1009, 1009), (2 * 1009, 1009), (1013 * 1009, 1009), (GREAT, GREAT), (999983, 999983)):
            self.refuses(TooGreat(prime), turns, (0, 1), base)
            self.refuses(TooGreat(prime), turns, (0,), base)
        self.tells(True, turns, (0, 1), 997)

    def test_leading_back_by_a_thousand_and_more(self):
        self.tells((0, 1), back_form, (0, 1), 1000)
        self.tells((999, 1), back_form, (1, 1), 1000)
        self.tells((0, 667), back_form, (0, 3), 1000)
        self.tells((0,), back_form, (5,), 1)
        for base in (1001, 10 ** 12):
            self.refuses(TooGreat(base), back_form, (0, 1), base)
            self.refuses(TooGreat(base), back_form, (0, 0, 1), base)
        self.refuses(NotTurning(), back_form, (0, 0, 1), 1000)
        self.refuses(NotTurning(), back_form, (0,), 2)


class Wrong(Case):
    def test_sums(self):
        for wrong in NO_SUMS:
            for function in (same, first_unlike):
                self.refuses(InvalidSum(wrong), function, wrong, (1,), 2)
                self.refuses(InvalidSum(wrong), function, (1,), wrong, 2)
            for function in (least_form, turns, back_form):
                self.refuses(InvalidSum(wrong), function, wrong, 2)

    def test_bases(self):
        for wrong in NO_BASES:
            for function in (same, first_unlike):
                self.refuses(InvalidNumber(wrong), function, (1,), (1,), wrong)
            for function in (least_form, turns, back_form):
                self.refuses(InvalidNumber(wrong), function, (1,), wrong)
            for function in (how_many, how_many_turn, least_nothing):
                self.refuses(InvalidNumber(wrong), function, wrong)

    def test_several_wrong_arguments(self):
        one, other = ((0, 1), (0, 0), InvalidSum((0, 0))), ((0, 1), (), InvalidSum(()))
        base = (2, 0, InvalidNumber(0))
        for function in (same, first_unlike):
            self.refuses_in_order(function, one, other, base)
        for function in (least_form, turns, back_form):
            self.refuses_in_order(function, one, base)
        self.refuses(InvalidSum(None), turns, None, 1009)
        self.refuses(InvalidSum(None), back_form, None, 1001)
        self.refuses(InvalidNumber(10 ** 12 + 1), back_form, (0,), 10 ** 12 + 1)

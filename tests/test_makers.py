"""restworld.makers."""

import random
from itertools import product
from math import prod

from restworld.errors import InvalidNumber, InvalidPairs, InvalidRests, InvalidValues, TooGreat, TooMany
from restworld.functions import how_many, is_table
from restworld.makers import bases_for, makers, next_of, sums_through
from tests.support import NO_BASES, NO_INTEGERS, NO_NUMBERS, NO_TUPLES, Case

MOST = 10 ** 40
MOST_IN_PAIR = 10 ** 30
PRIMES = [number for number in range(2, 200) if all(number % divisor for divisor in range(2, number))]
NO_MOST = NO_INTEGERS + (0, -1)
NO_PAIRS = (
    True, None, 0, "01", b"01", [0, 1], {0: 1}, object(), (), (0,), (0, 1, 2), (-1, 0), (0, -1), (True, 0), (0, False),
    (None, 0), (0, None), ("0", 1), (0, (1,)), (MOST_IN_PAIR + 1, 0), (0, MOST_IN_PAIR + 1), ((0, 1), (0, 1)),
)


def made(maker, first, many):
    a, b, n = maker
    values = [first]
    while len(values) < many:
        values.append((a * values[-1] + b) % n)
    return tuple(values)


def all_makers(values, most):
    return tuple(sorted(
        (a, b, n) for n in range(1, most + 1) for a in range(n) for b in range(n)
        if values[0] < n and made((a, b, n), values[0], len(values)) == values
    ))


class Examples(Case):
    def test_examples_of_the_document(self):
        told = [bases_for(((5, 1), (8, 0)), 1, 0, 100), bases_for(((10, 3),), 1, 0, 10), makers((0, 1, 3), 5),
                next_of((0, 1, 3), 5), next_of((0, 1, 3), 4), next_of((0, 1, 5), 2), sums_through((0, None), 2),
                sums_through((0, None, None, None), 4)]
        self.assertEqual(told, [(2, 4), (7,), ((2, 1, 4), (2, 1, 5)), None, 3, None, 2, 16])


class BasesForPairs(Case):
    def test_against_all_bases(self):
        chance = random.Random(51)
        for _ in range(300):
            factor, more = chance.randint(-9, 9), chance.randint(-30, 30)
            base = chance.randint(1, 30)
            pairs = []
            for _ in range(chance.randint(1, 4)):
                x = chance.randint(0, 60)
                pairs.append((x, (factor * x + more) % base if chance.random() < 0.9 else chance.randint(0, 9)))
            most = chance.choice((1, 5, 29, 200))
            wanted = tuple(n for n in range(1, most + 1) if all((factor * x + more) % n == y for x, y in pairs))
            self.tells(wanted, bases_for, tuple(pairs), factor, more, most)

    def test_pairs_that_each_base_fits(self):
        self.tells((1, 2, 3, 4, 5), bases_for, ((0, 0),), 1, 0, 5)
        self.tells((8, 9, 10), bases_for, ((7, 7), (3, 3), (0, 0)), 1, 0, 10)
        self.tells((4, 5), bases_for, ((10 ** 30, 3),), 0, 3, 5)
        self.tells(tuple(range(1, 5001)), bases_for, ((0, 0),), MOST, 0, 5000)
        self.tells(tuple(range(101, 5101)), bases_for, ((0, 100),), -MOST, 100, 5100)
        self.tells((10 ** 6,), bases_for, ((999999, 999999),), 1, 0, 10 ** 6)

    def test_pairs_that_none_or_one_fits(self):
        self.tells((), bases_for, ((0, 1),), 1, 0, 10 ** 6)
        self.tells((), bases_for, ((5, 1), (8, 1)), 1, 0, 10 ** 6)
        self.tells((), bases_for, ((MOST_IN_PAIR, MOST_IN_PAIR),), 1, 0, 10 ** 6)
        self.tells((), bases_for, ((0, 5),), 1, 5, 5)
        self.tells((6,), bases_for, ((0, 5),), 1, 5, 6)
        self.tells((1,), bases_for, ((3, 0), (4, 0)), 1, 0, 10 ** 6)
        self.tells((7,), bases_for, ((10, 3), (6, 6)), 1, 0, 10 ** 6)
        self.tells((7, 9), bases_for, ((10 ** 30, 1), (6, 6)), 1, 0, 10)

    def test_great_factors(self):
        self.tells(tuple(range(1, 13)), bases_for, ((MOST_IN_PAIR, 0),), MOST, -MOST, 12)
        value = -MOST * MOST_IN_PAIR - MOST
        self.tells(tuple(n for n in range(7, 100) if value % n == 6), bases_for, ((MOST_IN_PAIR, 6),), -MOST, -MOST, 99)

    def test_too_many(self):
        self.refuses(TooMany(5000), bases_for, ((0, 0),), 1, 0, 5001)
        self.refuses(TooMany(5000), bases_for, ((0, 0),), 0, 0, 10 ** 6)
        self.refuses(TooMany(5000), bases_for, ((0, 100),), 0, 100, 5101)

    def test_many_divisors(self):
        factor, x = prod(PRIMES[:25]), prod(PRIMES[25:38])
        divisors = [base for base in range(1, 10 ** 6 + 1) if factor * x % base == 0]
        self.tells(tuple(divisors[:5000]), bases_for, ((x, 0),), factor, 0, divisors[4999])
        # The first six are not above 7.
        self.tells(tuple(divisors[6:5006]), bases_for, ((x, 7),), factor, 7, divisors[5005])
        self.refuses(TooMany(5000), bases_for, ((x, 0),), factor, 0, divisors[5000])
        self.refuses(TooMany(5000), bases_for, ((x, 0),), factor, 0, 10 ** 6)

    def test_forty_and_forty_one(self):
        pairs = ((5, 1), (8, 0)) * 20
        self.tells((2, 4), bases_for, pairs, 1, 0, 100)
        self.refuses(InvalidPairs(40), bases_for, pairs + ((5, 1),), 1, 0, 100)
        self.refuses(InvalidPairs(40), bases_for, pairs + (None,), 1, 0, 100)

    def test_wrong_arguments(self):
        for wrong in NO_TUPLES + ((),):
            self.refuses(InvalidPairs(None), bases_for, wrong, 1, 0, 100)
        for wrong in NO_PAIRS:
            self.refuses(InvalidPairs(0), bases_for, (wrong,), 1, 0, 100)
            self.refuses(InvalidPairs(2), bases_for, ((5, 1), (8, 0), wrong, wrong), 1, 0, 100)
        for wrong in NO_NUMBERS:
            self.refuses(InvalidNumber(wrong), bases_for, ((5, 1),), wrong, 0, 100)
            self.refuses(InvalidNumber(wrong), bases_for, ((5, 1),), 1, wrong, 100)
        for wrong in NO_MOST + (10 ** 6 + 1,):
            self.refuses(InvalidNumber(wrong), bases_for, ((5, 1),), 1, 0, wrong)
        self.refuses_in_order(bases_for, (((0, 0),), [(0, 0)], InvalidPairs(None)), (1, None, InvalidNumber(None)),
                              (0, "0", InvalidNumber("0")), (10 ** 6, 10 ** 6 + 1, InvalidNumber(10 ** 6 + 1)))


class Makers(Case):
    def test_against_all_makers(self):
        chance = random.Random(52)
        for _ in range(150):
            n = chance.randint(1, 14)
            maker = (chance.randrange(n), chance.randrange(n), n)
            values = list(made(maker, chance.randrange(n), chance.randint(2, 7)))
            if chance.random() < 0.3:
                values[chance.randrange(len(values))] = chance.randint(0, 12)
            values, most = tuple(values), chance.randint(1, 15)
            found = all_makers(values, most)
            self.tells(found, makers, values, most)
            nexts = {(a * values[-1] + b) % n for a, b, n in found}
            self.tells(nexts.pop() if len(nexts) == 1 else None, next_of, values, most)

    def test_rows_of_two_and_of_forty(self):
        self.tells(((0, 0, 1),), makers, (0, 0), 1)
        self.tells(0, next_of, (0, 0), 1)
        self.tells(((0, 0, 1), (0, 0, 2), (1, 0, 2)), makers, (0, 0), 2)
        row = made((7, 3, 199), 5, 41)
        self.tells(((7, 3, 199),), makers, row[:40], 200)
        self.tells(row[40], next_of, row[:40], 200)
        self.tells(((7, 3, 199),), makers, row[:4], 199)
        self.tells((), makers, row[:40], 198)
        self.refuses(InvalidValues(None), makers, row, 200)
        self.refuses(InvalidValues(None), next_of, row, 200)

    def test_199_and_200(self):
        self.tells(((0, 199, 200),) + tuple((a, 199, 200) for a in range(1, 200)), makers, (0, 199), 200)
        self.tells((), makers, (0, 199), 199)
        self.tells(None, next_of, (0, 199), 199)
        self.tells(None, next_of, (0, 199), 200)
        self.tells(199, next_of, (199, 199), 200)
        for function in (makers, next_of):
            self.refuses(InvalidValues(1), function, (0, 200), 200)
            self.refuses(InvalidNumber(201), function, (0, 199), 201)

    def test_no_maker(self):
        for values, most in (((0, 1, 5), 2), ((3, 3), 3), ((0, 0, 1), 200), ((5, 5, 5, 4), 200)):
            self.tells((), makers, values, most)
            self.tells(None, next_of, values, most)

    def test_very_many(self):
        # Each factor makes the row by each base: 1 + 2 + .. + 99 are 4950, and 100 more are too many.
        self.assertEqual(len(self.ask(makers, (0, 0), 99)), 4950)
        self.refuses(TooMany(5000), makers, (0, 0), 100)
        # 23 + 24 + .. + 102 are 5000.
        self.assertEqual(len(self.ask(makers, (22, 5), 102)), 5000)
        self.refuses(TooMany(5000), makers, (22, 5), 103)
        self.refuses(TooMany(5000), makers, (0, 0, 0, 0), 200)
        self.tells(0, next_of, (0, 0), 100)
        self.tells(0, next_of, (0,) * 40, 200)
        self.tells(7, next_of, (7, 7), 200)
        self.refuses(TooMany(5000), makers, (7, 8), 200)
        self.tells(None, next_of, (7, 8), 200)

    def test_unlike_next_numbers(self):
        self.tells(((2, 1, 4), (2, 1, 5)), makers, (0, 1, 3), 5)
        self.tells(None, next_of, (0, 1, 3), 5)
        self.tells(3, next_of, (0, 1, 3), 4)
        # By two bases, but the same next number.
        self.tells(1, next_of, (1, 0, 1, 0), 3)
        self.assertEqual({n for _, _, n in makers((1, 0, 1, 0), 3)}, {2, 3})

    def test_wrong_arguments(self):
        for function in (makers, next_of):
            for wrong in NO_TUPLES + ((), (0,), (0,) * 41, (None,)):
                self.refuses(InvalidValues(None), function, wrong, 9)
            for wrong in NO_INTEGERS + (-1, 200, MOST):
                self.refuses(InvalidValues(0), function, (wrong, wrong), 9)
                self.refuses(InvalidValues(2), function, (0, 1, wrong, wrong), 9)
            for wrong in NO_MOST + (201, MOST):
                self.refuses(InvalidNumber(wrong), function, (0, 1), wrong)
            self.refuses_in_order(function, ((0, 0), [0, 0], InvalidValues(None)), (200, 0, InvalidNumber(0)))
            self.refuses_in_order(function, ((0, 0), (0, True), InvalidValues(1)), (200, 201, InvalidNumber(201)))


class SumsThrough(Case):
    def test_against_all_tables(self):
        # Each table of a sum is that of just one of those of which no two are the same.
        chance = random.Random(53)
        for base in range(1, 7):
            tables = [table for table in product(range(base), repeat=base) if is_table(table, base)]
            self.assertEqual(len(tables), how_many(base))
            for _ in range(40):
                part = chance.random()
                values = tuple(rest if chance.random() < part else None for rest in chance.choice(tables))
                if chance.random() < 0.3:
                    at = chance.randrange(base)
                    values = values[:at] + (chance.randrange(base),) + values[at + 1:]
                wanted = sum(all(x in (None, y) for x, y in zip(values, table)) for table in tables)
                self.tells(wanted, sums_through, values, base)

    def test_nothing_told(self):
        for base in range(1, 13):
            self.tells(how_many(base), sums_through, (None,) * base, base)

    def test_all_told(self):
        for base in range(1, 13):
            self.tells(1, sums_through, tuple(range(base)), base)
            self.tells(1, sums_through, tuple(5 * x ** 3 % base for x in range(base)), base)
            wrong = tuple(range(base - 1)) + ((base - 2) % base,)
            self.tells(int(is_table(wrong, base)), sums_through, wrong, base)
        self.tells(0, sums_through, (0, 0, 1, 0), 4)
        self.tells(0, sums_through, (0, None, 1, None, None, None, None, None, None, None, None, None), 12)

    def test_one_told(self):
        # How many there are is shared out evenly over the rests at each number.
        for base in range(1, 13):
            for at in sorted({0, base // 2, base - 1}):
                values = (None,) * at + (base - 1,) + (None,) * (base - 1 - at)
                self.tells(how_many(base) // base, sums_through, values, base)

    def test_two_told(self):
        # The values at numbers that are 4 apart differ by a multiple of 4.
        values = (1,) + (None,) * 3 + (5,) + (None,) * 3
        self.tells(how_many(8) // 8 // 2, sums_through, values, 8)
        self.tells(0, sums_through, (1,) + (None,) * 3 + (3,) + (None,) * 3, 8)
        self.tells(how_many(9) // 9 // 3, sums_through, (4, None, None, 7) + (None,) * 5, 9)
        self.tells(how_many(12) // 12 // 12, sums_through, (4, 7) + (None,) * 10, 12)
        self.tells(how_many(7) // 7 ** 2, sums_through, (4, None, None, None, 6, None, None), 7)

    def test_bases(self):
        self.tells(1, sums_through, (0,), 1)
        self.tells(1, sums_through, (None,), 1)
        for base in (13, 1000):
            self.refuses(TooGreat(base), sums_through, (None,) * base, base)
            self.refuses(InvalidRests(0), sums_through, (base,) * base, base)
            self.refuses(InvalidRests(None), sums_through, (0, 1), base)
        for base in (1001, 10 ** 12):
            self.refuses(TooGreat(base), sums_through, (None,) * 5, base)
            self.refuses(TooGreat(base), sums_through, None, base)

    def test_wrong_arguments(self):
        for wrong in NO_BASES:
            self.refuses(InvalidNumber(wrong), sums_through, (0, None), wrong)
            self.refuses(InvalidNumber(wrong), sums_through, [0], wrong)
        for wrong in NO_TUPLES + ((), (0,), (0, 0, 0), (None,) * 3, (9,)):
            self.refuses(InvalidRests(None), sums_through, wrong, 2)
        for wrong in NO_INTEGERS + (-1, 3, MOST):
            if wrong is not None:
                self.refuses(InvalidRests(0), sums_through, (wrong, wrong, 0), 3)
                self.refuses(InvalidRests(2), sums_through, (0, None, wrong), 3)

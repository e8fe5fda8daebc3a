"""restworld.runs."""

import random
from math import gcd

from restworld.errors import InvalidIndex, InvalidNumber, InvalidPrime, InvalidRun, NotOpen, TooGreat, TooMany
from restworld.runs import (
    at, common_value, entry, growth, rest_at, shown_rests, sum_rest, tail_and_round_of,
)
from tests.support import NO_BASES, NO_INTEGERS, NO_PRIMES, NO_TUPLES, Case

FIB = (1, 1, 0, 1)
MOST = 10 ** 40
BIG = 10 ** 9
GREAT = 999999999989
NO_RUNS = NO_TUPLES + (
    (), (1,), (1, 1, 0), (1, 1, 0, 1, 1), (True, 1, 0, 1), (1, None, 0, 1), (1, 1, "0", 1), (1, 1, 0, [1]),
    (BIG + 1, 1, 0, 1), (1, -BIG - 1, 0, 1), (1, 1, BIG + 1, 1), (1, 1, 0, MOST), ((1, 1), 1, 0, 1), (1, 1, 0, False),
)
NO_INDEXES = NO_INTEGERS + (-1, MOST + 1)
NO_TERMS = NO_INTEGERS + (BIG + 1, -BIG - 1, MOST)


def values_of(run, many):
    a, b, x, y = run
    values = [x, y]
    while len(values) < many:
        values.append(a * values[-1] + b * values[-2])
    return values


def walk(run, base):
    """The tail and the round, by walking from pair to pair."""
    a, b, x, y = run
    pair, seen = (x % base, y % base), {}
    while pair not in seen:
        seen[pair] = len(seen)
        pair = (pair[1], (a * pair[1] + b * pair[0]) % base)
    return seen[pair], len(seen) - seen[pair]


def some_runs(seed, often):
    """Some runs; many of them with zeros that are integers, and with values that primes divide."""
    chance = random.Random(seed)
    for _ in range(often):
        most = chance.choice((2, 9, 100, BIG))
        yield tuple(chance.randint(-most, most) for _ in range(4))
        one, other, x = chance.randint(-6, 6), chance.randint(-6, 6), chance.choice((0, 1, 2, 4, 9, 16, 27, 75))
        yield one + other, -one * other, x, chance.choice((x * one, 6 * chance.randint(-9, 9), 8, 0))


class Examples(Case):
    def test_examples_of_the_document(self):
        told = [at(FIB, 10), rest_at(FIB, 10, 7), sum_rest(FIB, 10, 100), tail_and_round_of(FIB, 2)]
        self.assertEqual(told, [55, 6, 43, (0, 3)])
        told = [tail_and_round_of(FIB, 5), tail_and_round_of(FIB, 10), tail_and_round_of((1, 2, 1, 1), 2)]
        self.assertEqual(told, [(0, 20), (0, 60), (0, 1)])
        self.assertEqual(tail_and_round_of((0, 4, 1, 1), 8), (4, 1))
        told = [growth(FIB, 2), growth(FIB, 3), growth((2, -1, 0, 1), 3), growth((0, 1, 1, 2), 7), entry(1, 1, 10)]
        self.assertEqual(told, [((3,), 2), ((8,), 3), ((3,), 3), ((2,), 1), 15])
        told = [entry(2, 1, 5), common_value(1, 1, 12, 18), shown_rests(FIB, 8)]
        self.assertEqual(told, [3, 8, (0, 1, 2, 3, 5, 7)])


class Values(Case):
    def test_values_and_rests(self):
        for run in some_runs(71, 25):
            values = values_of(run, 40)
            for index in (0, 1, 2, 3, 10, 39):
                self.assertEqual(at(run, index), values[index])
                for base in (1, 2, 12, 97, 10 ** 30):
                    self.assertEqual(rest_at(run, index, base), values[index] % base)
                    self.assertEqual(sum_rest(run, index, base), sum(values[:index + 1]) % base)

    def test_all_first_sums(self):
        total = 0
        for index, value in enumerate(values_of((3, -2, 5, 4), 70)):
            total += value
            self.assertEqual(sum_rest((3, -2, 5, 4), index, 10 ** 9), total % 10 ** 9)

    def test_index_at_its_bounds(self):
        self.tells(0, at, FIB, 0)
        self.tells(1, at, FIB, 1)
        self.tells(values_of(FIB, 501)[500], at, FIB, 500)
        great = (BIG, BIG, -BIG, BIG)
        self.assertTrue(at(great, 500) == values_of(great, 501)[500])
        for wrong in NO_INDEXES + (501, MOST):
            self.refuses(InvalidIndex(wrong), at, FIB, wrong)
        for wrong in NO_INDEXES:
            self.refuses(InvalidIndex(wrong), rest_at, FIB, wrong, 2)
            self.refuses(InvalidIndex(wrong), sum_rest, FIB, wrong, 2)

    def test_far_indexes(self):
        # The values of the first run come round with 60 by 10, and with 1500000 by 10 ** 6.
        values = values_of(FIB, 60)
        self.tells(values[MOST % 60] % 10, rest_at, FIB, MOST, 10)
        for base in (1, 7, 10 ** 6, 10 ** 30):
            # The sum of the values is the one two further on, less 1.
            wanted = (rest_at(FIB, MOST - 1, base) + 2 * rest_at(FIB, MOST, base) - rest_at(FIB, 0, base)) % base
            self.tells((wanted - 1) % base, sum_rest, FIB, MOST, base)
            self.tells((7 + 3 * MOST) % base, rest_at, (2, -1, 7, 10), MOST, base)
            self.tells((7 * (MOST + 1) + 3 * MOST * (MOST + 1) // 2) % base, sum_rest, (2, -1, 7, 10), MOST, base)
        self.tells(pow(3, MOST, 10 ** 30), rest_at, (3, 0, 1, 3), MOST, 10 ** 30)
        for wrong in NO_INTEGERS + (0, -1, 10 ** 30 + 1):
            self.refuses(InvalidNumber(wrong), rest_at, FIB, 0, wrong)
            self.refuses(InvalidNumber(wrong), sum_rest, FIB, 0, wrong)


class Rounds(Case):
    def test_tails_and_rounds_by_small_bases(self):
        runs = list(some_runs(81, 25)) + [FIB, (0, 0, 1, 1), (0, 0, 0, 0), (2, 4, 1, 1), (6, 12, 5, 7), (1, 0, 3, 3)]
        for base in list(range(1, 33)) + [36, 49, 64, 72, 81, 100, 128, 243]:
            for run in runs:
                tail, many = walk(run, base)
                self.assertEqual(tail_and_round_of(run, base), (tail, many), (run, base))
                wanted = tuple(sorted(set(value % base for value in values_of(run, tail + many)[:tail + many])))
                self.assertEqual(shown_rests(run, base), wanted)

    def test_great_bases(self):
        for base in (10 ** 12, 2 ** 39, 3 ** 25, 999983 * 999979, 999983 * 2 ** 19, 997 ** 4):
            for run in (FIB, (6, 12, 5, 7), (4, -4, 1, 2), (BIG, -BIG, BIG, 1)):
                tail, many = tail_and_round_of(run, base)
                self.assertEqual(*[(rest_at(run, tail + k, base), rest_at(run, tail + k + 1, base)) for k in (0, many)])
                if tail:
                    self.assertNotEqual(*[rest_at(run, tail - 1 + k, base) for k in (0, many)])
        self.tells((0, 1500000000000), tail_and_round_of, FIB, 10 ** 12)
        self.tells((0, 3 * 2 ** 38), tail_and_round_of, FIB, 2 ** 39)
        self.tells((0, 1), tail_and_round_of, (0, 0, 0, 0), 10 ** 12)
        self.tells((2, 1), tail_and_round_of, (0, 0, 1, 1), 10 ** 12)
        self.tells((1, 1), tail_and_round_of, (0, 0, 1, 0), 10 ** 12)
        self.tells((39, 1), tail_and_round_of, (2, 0, 1, 2), 2 ** 39)

    def test_tails(self):
        for often in range(1, 12):
            for run in ((0, 2, 0, 1), (0, 2, 1, 0), (2, 2, 1, 1), (1, 2, 1, 3), (1, 4, 8, 1), (6, 4, 3, 5)):
                self.tells(walk(run, 2 ** often), tail_and_round_of, run, 2 ** often)
        self.tells((78, 1), tail_and_round_of, (0, 2, 0, 1), 2 ** 39)
        self.tells((77, 1), tail_and_round_of, (0, 2, 1, 0), 2 ** 39)

    def test_a_great_prime_in_the_base(self):
        self.tells((0, 2), tail_and_round_of, (0, 1, 1, 2), 999983)
        for base, prime in ((1000003, 1000003), (2 * 1000003, 1000003), (GREAT, GREAT), (7 * 1000003, 1000003)):
            for function in (tail_and_round_of, shown_rests):
                self.refuses(TooGreat(prime), function, FIB, base)
                self.refuses(TooGreat(prime), function, (0, 0, 0, 0), base)
            self.refuses(TooGreat(prime), entry, 1, 1, base)
        self.refuses(TooGreat(999999999989), tail_and_round_of, FIB, 999999999989)
        self.ask(tail_and_round_of, FIB, 999983 * 1000)

    def test_more_rests_than_are_shown(self):
        self.tells((1, 2), shown_rests, (0, 1, 1, 2), 10 ** 12)
        self.tells(tuple(range(4999)), shown_rests, (2, -1, 0, 1), 4999)
        self.tells(tuple(range(5000)), shown_rests, (2, -1, 0, 1), 5000)
        self.refuses(TooMany(5000), shown_rests, (2, -1, 0, 1), 5001)
        self.refuses(TooMany(5000), shown_rests, FIB, 10 ** 12)
        # The tail counts, too: 1 and 4999 are just as many as may be.
        self.assertEqual(tail_and_round_of((2, 0, 1, 2), 2 * 5003), (1, 5002))
        self.refuses(TooMany(5000), shown_rests, (2, 0, 1, 2), 2 * 5003)


class Growths(Case):
    def test_growth_tells_the_rounds(self):
        top = {2: 9, 3: 6, 5: 4, 7: 3}
        for run in list(some_runs(91, 60)) + [FIB, (1, -1, 0, 1), (0, -1, 4, 4), (2, -1, 8, 8), (2, -1, 0, 8), (1, 1, 0, 0)]:
            for prime, most in top.items():
                if run[1] % prime == 0:
                    self.refuses(NotOpen(run[1]), growth, run, prime)
                    continue
                rounds, factor = growth(run, prime)
                self.assertIn(factor, (1, prime))
                wanted = [walk(run, prime ** power)[1] for power in range(1, most + 1)]
                told = list(rounds)
                while len(told) < most + 6:
                    told.append(told[-1] * factor)
                self.assertEqual(told[:most], wanted)
                for power in range(most + 1, most + 6):
                    if prime ** power <= 10 ** 12:
                        self.assertEqual(tail_and_round_of(run, prime ** power)[1], told[power - 1])
                if len(rounds) > 1:
                    self.assertNotEqual(rounds[-1], rounds[-2] * factor)

    def test_growths_at_the_edges(self):
        self.tells(((1,), 1), growth, (0, 1, 0, 0), 2)
        self.tells(((1,), 1), growth, (5, 7, 0, 0), 3)
        # The run 1, 1, -1, -1 .. comes again behind four values.
        self.tells(((1, 4), 1), growth, (0, -1, 1, 1), 2)
        self.tells(((4,), 1), growth, (0, -1, 1, 1), 3)
        self.tells(((1, 1, 1, 4), 1), growth, (0, -1, 4, 4), 2)
        self.tells(((3, 6), 1), growth, (1, -1, 0, 1), 2)
        self.tells(((6,), 1), growth, (1, -1, 0, 1), 3)
        # All powers of 2 up to the 29th divide what comes, and then each round is twice as long.
        self.tells(((1,) * 29, 2), growth, (2, -1, 0, 2 ** 29), 2)
        self.tells(((1,) * 18, 3), growth, (2, -1, 5, 5 + 3 ** 18), 3)
        self.tells(((1, 1, 1, 2), 1), growth, (0, 1, 0, 8), 2)

    def test_a_first_round_that_stays(self):
        # By 13 and by 31 there are such runs; the first two rounds are the same.
        for run, prime in (((1, 1, 0, 1), 2), ((2, 1, 0, 1), 13), ((2, 1, 0, 1), 31), ((4, 1, 0, 1), 2), ((8, 1, 0, 1), 3)):
            rounds, factor = growth(run, prime)
            self.assertEqual(factor, prime)
            told = list(rounds) + [rounds[-1] * prime, rounds[-1] * prime ** 2]
            self.assertEqual(told[:2], [tail_and_round_of(run, prime ** power)[1] for power in (1, 2)])
        # The third power of this number leaves 1 by 7 ** 5; its own powers, times 7, are the values.
        third = pow(2, 7 ** 4, 7 ** 5)
        self.tells(((3,) * 5, 7), growth, (third + 3, -3 * third, 1, third), 7)
        self.tells(((1,) + (3,) * 5, 7), growth, (third + 3, -3 * third, 7, 7 * third), 7)
        self.tells(((28, 28), 13), growth, (2, 1, 0, 1), 13)
        self.tells(((30, 30), 31), growth, (2, 1, 0, 1), 31)

    def test_runs_that_begin_near_to_one_that_grows_otherwise(self):
        # The first values are almost those of the powers of 8, which come round in another way than those of 3.
        self.tells(((1, 1, 28, 28), 13), growth, (2, 1, 0, 169), 13)
        for run, prime, begin in (
            ((11, -24, 1, 8 + 7 ** 5), 7, 6), ((11, -24, 3, 3 * 8 - 7 ** 6), 7, 7), ((12, -35, 1, 7 + 6 ** 7), 3, 8),
            ((-2, 15, 5, 5 * -5 + 2 ** 11), 2, 1), ((9, -14, 2, 2 * 2 + 7 * 13 ** 4), 13, 1), ((1, 1, 3 ** 7, 3 ** 8), 3, 1),
        ):
            rounds, factor = growth(run, prime)
            self.assertEqual(factor, prime)
            self.assertGreaterEqual(len(rounds), begin)
            told = list(rounds) + [rounds[-1] * prime ** k for k in range(1, 12)]
            most = 1
            while prime ** (most + 1) <= 10 ** 12:
                most += 1
            wanted = [tail_and_round_of(run, prime ** power)[1] for power in range(1, min(most, len(told)) + 1)]
            self.assertEqual(told[:len(wanted)], wanted)

    def test_growth_at_the_prime_997(self):
        for run in (FIB, (2, -1, 0, 1), (BIG, BIG - 1, 3, 4), (996, 1, 997, 997), (0, -1, 997, 5)):
            rounds, factor = growth(run, 997)
            told = list(rounds) + [rounds[-1] * factor ** k for k in range(1, 5)]
            self.assertEqual(told[:4], [tail_and_round_of(run, 997 ** power)[1] for power in range(1, 5)])

    def test_b_is_divided_by_the_prime(self):
        for b, prime in ((0, 2), (-6, 3), (997, 997), (-10 ** 9, 5)):
            self.refuses(NotOpen(b), growth, (1, b, 0, 1), prime)
            self.refuses(NotOpen(b), growth, (0, b, 0, 0), prime)


class Entries(Case):
    def test_entries_by_small_bases(self):
        for first in range(-4, 6):
            for second in range(-5, 6):
                values = values_of((first, second, 0, 1), 200)
                for base in range(1, 31):
                    if gcd(second, base) > 1:
                        self.refuses(NotOpen(second), entry, first, second, base)
                        continue
                    wanted = next(k for k in range(1, 200) if values[k] % base == 0)
                    self.assertEqual(entry(first, second, base), wanted)

    def test_entries_by_powers_and_great_bases(self):
        self.tells(1, entry, 1, 1, 1)
        self.tells(1, entry, 5, 0, 1)
        self.tells(3 * 2 ** 37, entry, 1, 1, 2 ** 39)
        self.tells(750000000000, entry, 1, 1, 10 ** 12)
        self.tells(2, entry, 0, 1, 999983 * 999979)
        for first, second, base in ((1, 1, 999983 * 999979), (BIG, BIG - 2, 3 ** 25), (7, -3, 997 ** 4), (2, -1, 10 ** 12)):
            told = entry(first, second, base)
            run = (first, second, 0, 1)
            self.assertEqual(rest_at(run, told, base), 0)
            self.assertTrue(all(rest_at(run, told // q, base) for q in (2, 3, 5, 7, 11, 13, 997) if told % q == 0))

    def test_common_values(self):
        for first, second in ((1, 1), (2, 1), (3, -2), (0, 1), (0, 0), (4, 6), (-5, 10)):
            values = values_of((first, second, 0, 1), 30)
            for index in range(30):
                for other in range(30):
                    self.assertEqual(common_value(first, second, index, other), gcd(values[index], values[other]))
        self.tells(0, common_value, 1, 1, 0, 0)
        self.tells(0, common_value, 0, 5, 2, 4)
        self.tells(at(FIB, 500), common_value, 1, 1, 500, 0)
        self.tells(at(FIB, 100), common_value, 1, 1, 400, 500)
        self.tells(at((BIG, 1, 0, 1), 250), common_value, BIG, 1, 250, 500)


class Wrong(Case):
    def test_runs(self):
        for wrong in NO_RUNS:
            self.refuses(InvalidRun(wrong), at, wrong, 0)
            self.refuses(InvalidRun(wrong), rest_at, wrong, 0, 1)
            self.refuses(InvalidRun(wrong), sum_rest, wrong, 0, 1)
            self.refuses(InvalidRun(wrong), tail_and_round_of, wrong, 1)
            self.refuses(InvalidRun(wrong), growth, wrong, 2)
            self.refuses(InvalidRun(wrong), shown_rests, wrong, 1)
        for run in ((BIG,) * 4, (-BIG,) * 4):
            self.tells(run[2], at, run, 0)

    def test_bases_primes_and_terms(self):
        for wrong in NO_BASES:
            self.refuses(InvalidNumber(wrong), tail_and_round_of, FIB, wrong)
            self.refuses(InvalidNumber(wrong), shown_rests, FIB, wrong)
            self.refuses(InvalidNumber(wrong), entry, 1, 1, wrong)
        for wrong in NO_PRIMES:
            self.refuses(InvalidPrime(wrong), growth, FIB, wrong)
        for wrong in NO_TERMS:
            self.refuses(InvalidNumber(wrong), entry, wrong, 1, 2)
            self.refuses(InvalidNumber(wrong), entry, 1, wrong, 2)
            self.refuses(InvalidNumber(wrong), common_value, wrong, 1, 2, 2)
            self.refuses(InvalidNumber(wrong), common_value, 1, wrong, 2, 2)
        for wrong in NO_INDEXES + (501, MOST):
            self.refuses(InvalidIndex(wrong), common_value, 1, 1, wrong, 2)
            self.refuses(InvalidIndex(wrong), common_value, 1, 1, 2, wrong)

    def test_several_wrong_arguments(self):
        run, index = (FIB, (1, 1, 0), InvalidRun((1, 1, 0))), (3, -1, InvalidIndex(-1))
        base = (7, 0, InvalidNumber(0))
        first, second = (1, None, InvalidNumber(None)), (1, BIG + 1, InvalidNumber(BIG + 1))
        self.refuses_in_order(at, run, (3, 501, InvalidIndex(501)))
        self.refuses_in_order(rest_at, run, index, base)
        self.refuses_in_order(sum_rest, run, index, base)
        self.refuses_in_order(tail_and_round_of, run, base)
        self.refuses_in_order(shown_rests, run, base)
        self.refuses_in_order(growth, run, (7, 9, InvalidPrime(9)))
        self.refuses_in_order(entry, first, second, base)
        self.refuses_in_order(common_value, first, second, index, (4, "4", InvalidIndex("4")))

    def test_what_is_told_with_last(self):
        self.refuses(InvalidNumber(0), entry, 1, 2, 0)
        self.refuses(NotOpen(1000003), entry, 1, 1000003, 2 * 1000003)
        self.refuses(NotOpen(0), entry, 1, 0, 2)
        self.refuses(InvalidPrime(4), growth, (1, 4, 0, 1), 4)
        # A great prime comes ahead of too many rests.
        self.refuses(TooGreat(1000003), shown_rests, (2, -1, 0, 1), 1000003)

"""restworld.rows."""

import random
from math import gcd, prod

from restworld.errors import InvalidBases, InvalidNumber, InvalidRests, NoNumber, NotOpen, TooMany
from restworld.rows import (
    added, compared, divided, is_over, mended, multiplied, number_of, places, reach, rest_of, row_of, taken,
)
from tests.support import NO_INTEGERS, NO_TUPLES, Case

BASES = (3, 5, 7)
MOST = 10 ** 40
# The twelve greatest primes below 10 ** 6.
GREAT = (999983, 999979, 999961, 999959, 999953, 999931, 999917, 999907, 999883, 999863, 999853, 999809)
ALL = (
    (reach,), (row_of, 0), (number_of, (0, 0, 0)), (added, (0, 0, 0), (0, 0, 0)), (taken, (0, 0, 0), (0, 0, 0)),
    (multiplied, (0, 0, 0), (0, 0, 0)), (places, (0, 0, 0)), (compared, (0, 0, 0), (0, 0, 0)),
    (is_over, (0, 0, 0), (0, 0, 0)), (rest_of, (0, 0, 0), 1), (divided, (0, 0, 0), 1), (mended, (0, 0, 0), 1),
)
ONE_ROW = ((number_of,), (places,), (rest_of, 1), (divided, 1), (mended, 1))
TWO_ROWS = (added, taken, multiplied, compared, is_over)
NO_ROWS = NO_TUPLES + ((0,), (0, 0), (0, 0, 0, 0), (None, 0), ("a", "b", "c", "d"))


def row(bases, number):
    return tuple(number % base for base in bases)


class Examples(Case):
    def test_examples_of_the_document(self):
        told = [reach(BASES), row_of(BASES, 23), row_of(BASES, -1), number_of(BASES, (2, 3, 2))]
        self.assertEqual(told, [105, (2, 3, 2), (2, 4, 6), 23])
        told = [added(BASES, (2, 3, 2), (2, 3, 2)), taken(BASES, (0, 0, 1), (2, 3, 2))]
        self.assertEqual(told, [(1, 1, 4), (1, 2, 6)])
        told = [multiplied(BASES, (2, 3, 2), (2, 3, 2)), places(BASES, (2, 3, 2))]
        self.assertEqual(told, [(1, 4, 4), (2, 2, 1)])
        told = [compared(BASES, (2, 3, 2), (1, 1, 4)), rest_of(BASES, (2, 3, 2), 4)]
        self.assertEqual(told, [-1, 3])
        told = [is_over(BASES, (0, 0, 4), (0, 0, 4)), is_over(BASES, (2, 3, 2), (0, 0, 0))]
        self.assertEqual(told, [True, False])
        told = [divided(BASES, (1, 1, 4), 2), mended(BASES, (2, 3, 3), 15), mended(BASES, (2, 3, 2), 105)]
        self.assertEqual(told, [(2, 3, 2), (1, (3, 8)), (0, (23,))])
        self.refuses(NoNumber(), divided, BASES, (2, 3, 2), 2)


class SmallBases(Case):
    def test_rows_of_all_numbers(self):
        for bases in ((2,), (5,), (2, 3), (3, 2), (4, 9), (9, 4, 5), (3, 5, 7), (7, 2, 5, 3)):
            around = prod(bases)
            self.tells(around, reach, bases)
            for number in range(-around, 2 * around):
                self.assertEqual(row_of(bases, number), row(bases, number))
            for number in range(around):
                self.assertEqual(number_of(bases, row(bases, number)), number)
                digits = places(bases, row(bases, number))
                self.assertEqual(sum(digit * prod(bases[:k]) for k, digit in enumerate(digits)), number)
                self.assertTrue(all(0 <= digit < base for digit, base in zip(digits, bases)))
                for base in (1, 2, 4, 10, 97):
                    self.assertEqual(rest_of(bases, row(bases, number), base), number % base)

    def test_two_rows(self):
        for bases in ((2,), (3, 4), (5, 2, 3)):
            around = prod(bases)
            for x in range(around):
                for y in range(around):
                    pair = (row(bases, x), row(bases, y))
                    self.assertEqual(added(bases, *pair), row(bases, x + y))
                    self.assertEqual(taken(bases, *pair), row(bases, x - y))
                    self.assertEqual(multiplied(bases, *pair), row(bases, x * y))
                    self.assertEqual(compared(bases, *pair), (x > y) - (x < y))
                    self.assertIs(is_over(bases, *pair), x + y >= around)

    def test_divided(self):
        bases = (3, 4, 5)
        for x in range(60):
            for number in range(1, 70):
                if gcd(number, 60) > 1:
                    self.refuses(NotOpen(number), divided, bases, row(bases, x), number)
                elif x % number:
                    self.refuses(NoNumber(), divided, bases, row(bases, x), number)
                else:
                    self.tells(row(bases, x // number), divided, bases, row(bases, x), number)

    def test_mended(self):
        for bases in ((2,), (3, 4), (4, 3, 5), (2, 3, 5, 7)):
            around = prod(bases)
            for x in range(0, around, 3):
                this = row(bases, x)
                unlike = [sum(a != b for a, b in zip(this, row(bases, y))) for y in range(around)]
                for bound in (1, 2, 5, around // 2, around - 1, around):
                    if 1 <= bound <= around:
                        least = min(unlike[:bound])
                        wanted = (least, tuple(y for y in range(bound) if unlike[y] == least))
                        self.assertEqual(mended(bases, this, bound), wanted)


class Edges(Case):
    def test_the_number_0_and_the_greatest(self):
        for bases in (BASES, GREAT, (2,), (10 ** 6,)):
            around = prod(bases)
            nought, last = (0,) * len(bases), tuple(base - 1 for base in bases)
            self.tells(0, number_of, bases, nought)
            self.tells(around - 1, number_of, bases, last)
            self.tells(nought, places, bases, nought)
            self.tells(last, places, bases, last)
            self.tells(nought, added, bases, last, row(bases, 1))
            self.tells(last, taken, bases, nought, row(bases, 1))
            self.tells(row(bases, 1), multiplied, bases, last, last)
            self.tells(1, compared, bases, last, nought)
            self.tells(-1, compared, bases, nought, last)
            self.tells(0, compared, bases, last, last)
            self.tells(True, is_over, bases, last, row(bases, 1))
            self.tells(False, is_over, bases, last, nought)
            self.tells((around - 1) % 10 ** 12, rest_of, bases, last, 10 ** 12)
            self.tells(0, rest_of, bases, last, 1)
            self.tells((0, (0,)), mended, bases, nought, 1)
            self.tells((0, (around - 1,)), mended, bases, last, around)
            self.tells(nought, divided, bases, nought, 1)

    def test_numbers_at_the_limits(self):
        for number in (MOST, -MOST, MOST - 1, 1 - MOST):
            self.tells(row(GREAT, number), row_of, GREAT, number)
            self.tells(number % prod(GREAT), number_of, GREAT, row(GREAT, number))

    def test_great_bases(self):
        chance = random.Random(7)
        around = prod(GREAT)
        self.tells(around, reach, GREAT)
        for _ in range(20):
            x, y = chance.randrange(around), chance.randrange(around)
            pair = (row(GREAT, x), row(GREAT, y))
            self.tells(row(GREAT, x * y), multiplied, GREAT, *pair)
            self.tells((x > y) - (x < y), compared, GREAT, *pair)
            self.tells(x + y >= around, is_over, GREAT, *pair)
            self.tells(x % 999999999989, rest_of, GREAT, pair[0], 999999999989)

    def test_great_rows_are_mended(self):
        number = 123456789012345678901234567890123456
        wrong = list(row(GREAT, number))
        for at in (0, 4, 11):
            wrong[at] = (wrong[at] + 1) % GREAT[at]
        self.tells((3, (number,)), mended, GREAT, tuple(wrong), 10 ** 36)
        self.tells((12, tuple(range(7))), mended, GREAT, (999,) * 12, 7)

    def test_divided_at_the_limits(self):
        number = MOST - 1
        self.tells((1,) * 12, divided, GREAT, row(GREAT, number), number)
        self.refuses(NoNumber(), divided, GREAT, row(GREAT, number - 1), number)
        self.refuses(NotOpen(999983), divided, GREAT, row(GREAT, 999983), 999983)
        self.refuses(NotOpen(6), divided, (5, 7, 9), (1, 1, 1), 6)
        for wrong in NO_INTEGERS + (0, -1, MOST + 1):
            self.refuses(InvalidNumber(wrong), divided, BASES, (0, 0, 0), wrong)
        self.tells((0, 0, 0), divided, (3, 7, 11), (0, 0, 0), MOST)
        self.refuses(NotOpen(MOST), divided, BASES, (0, 0, 0), MOST)

    def test_bound_at_its_bounds(self):
        self.tells((3, (0,)), mended, BASES, (1, 1, 1), 1)
        self.tells((0, (1,)), mended, BASES, (1, 1, 1), 105)
        self.tells((3, (0,)), mended, BASES, (1, 1, 1), 1)
        for wrong in NO_INTEGERS + (0, -1, 106, MOST):
            self.refuses(InvalidNumber(wrong), mended, BASES, (1, 1, 1), wrong)

    def test_a_thousand_mended_and_more(self):
        self.tells((1, tuple(range(1000))), mended, (10 ** 6,), (1000,), 1000)
        self.refuses(TooMany(1000), mended, (10 ** 6,), (1001,), 1001)
        self.tells((0, (1000,)), mended, (10 ** 6,), (1000,), 1001)
        self.tells((1, tuple(range(1, 5000, 5))), mended, (5, 999983), (1, 6000), 5000)
        self.refuses(TooMany(1000), mended, (5, 999983), (1, 6000), 5002)
        self.refuses(TooMany(1000), mended, GREAT, (5000,) * 12, 5000)


class Wrong(Case):
    def test_bases(self):
        for function, *others in ALL:
            for wrong in NO_TUPLES + ((),):
                self.refuses(InvalidBases(None), function, wrong, *others)
            for wrong in NO_INTEGERS + (0, 1, -2, -7, 10 ** 6 + 1, 10 ** 40):
                self.refuses(InvalidBases(0), function, (wrong, 4, 2), *others)
                self.refuses(InvalidBases(1), function, (5, wrong, wrong), *others)
            self.refuses(InvalidBases(1), function, (6, 4, 4), *others)
            self.refuses(InvalidBases(2), function, (2, 3, 6, None), *others)
            self.refuses(InvalidBases(1), function, (7, 7, 3), *others)
            self.refuses(InvalidBases(12), function, (*GREAT, 2), *others)
            self.refuses(InvalidBases(12), function, (*GREAT, None, 4), *others)
            self.refuses(InvalidBases(11), function, (*GREAT[:11], 999983, 2), *others)
        self.tells(10 ** 6, reach, (10 ** 6,))
        self.tells(2, reach, (2,))

    def test_rows(self):
        for function, *others in ONE_ROW:
            for wrong in NO_ROWS:
                self.refuses(InvalidRests(None), function, BASES, wrong, *others)
            self.wrong_rests(lambda wrong, index: self.refuses(InvalidRests(index), function, BASES, wrong, *others))
        for function in TWO_ROWS:
            for wrong in NO_ROWS:
                self.refuses(InvalidRests(None), function, BASES, wrong, (0, 0, 7))
                self.refuses(InvalidRests(None), function, BASES, (0, 0, 6), wrong)
            self.wrong_rests(lambda wrong, index: self.refuses(InvalidRests(index), function, BASES, wrong, (3, 0, 0)))
            self.wrong_rests(lambda wrong, index: self.refuses(InvalidRests(index), function, BASES, (2, 4, 6), wrong))

    def wrong_rests(self, look):
        for wrong in NO_INTEGERS + (-1, -3, 7, 10 ** 40):
            for at in range(3):
                look(tuple([0] * at + [wrong] * (3 - at)), at)
        look((3, 4, 6), 0)
        look((2, 5, 6), 1)
        look((2, 4, 7), 2)

    def test_numbers(self):
        for wrong in NO_INTEGERS + (MOST + 1, -MOST - 1):
            self.refuses(InvalidNumber(wrong), row_of, BASES, wrong)
        for wrong in NO_INTEGERS + (0, -1, 10 ** 12 + 1):
            self.refuses(InvalidNumber(wrong), rest_of, BASES, (0, 0, 0), wrong)

    def test_several_wrong_arguments(self):
        bases = (BASES, (3, 5, 9), InvalidBases(2))
        row, other = ((0, 0, 0), (0, 0), InvalidRests(None)), ((0, 0, 0), (0, 5, 7), InvalidRests(1))
        self.refuses_in_order(row_of, bases, (0, "0", InvalidNumber("0")))
        for function in TWO_ROWS:
            self.refuses_in_order(function, bases, row, other)
        self.refuses_in_order(rest_of, bases, row, (1, 0, InvalidNumber(0)))
        self.refuses_in_order(divided, bases, row, (1, 0, InvalidNumber(0)))
        self.refuses_in_order(mended, bases, row, (1, 106, InvalidNumber(106)))

    def test_what_is_told_with_last(self):
        self.refuses(NotOpen(3), divided, BASES, (1, 0, 0), 3)
        self.refuses(NotOpen(14), divided, BASES, (1, 1, 1), 14)
        self.refuses(InvalidRests(0), divided, BASES, (3, 0, 0), 3)
        self.refuses(InvalidNumber(1002), mended, (1001,), (1000,), 1002)
        self.refuses(InvalidRests(0), mended, (10 ** 6,), (10 ** 6,), 2000)

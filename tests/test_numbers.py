"""restworld.numbers."""

from math import factorial, gcd, lcm

from restworld.errors import InvalidNumber, InvalidPrime, TooGreat
from restworld.numbers import (
    apart, combined, common, divisors, is_prime, least_product, multiple, often_in, often_in_product,
)
from tests.support import NO_INTEGERS, Case

PRIMES = [n for n in range(2, 1000) if all(n % k for k in range(2, n))]
MOST = 10 ** 40
NO_NUMBERS = NO_INTEGERS + (MOST + 1, -MOST - 1, 10 ** 80)
NO_BASES = NO_INTEGERS + (0, -1, -12, 10 ** 12 + 1, 10 ** 40)
NO_PRIMES = NO_INTEGERS + (0, 1, -2, -7, 4, 9, 91, 961, 999, 1000, 1009, 10 ** 40)


class Examples(Case):
    def test_examples_of_the_document(self):
        pair = combined(12, 18)
        told = [common(12, -18), common(0, 0), multiple(4, -6), multiple(0, 5), pair[0] * 12 + pair[1] * 18]
        self.assertEqual(told, [6, 0, 12, 0, 6])
        self.assertEqual([apart(360), apart(1), divisors(12)], [((2, 3), (3, 2), (5, 1)), (), (1, 2, 3, 4, 6, 12)])
        told = [is_prime(97), is_prime(91), is_prime(-7), often_in(-72, 2), often_in_product(10, 2)]
        self.assertEqual(told, [True, False, False, 3, 8])
        told = [often_in_product(10 ** 20, 5), least_product(8), least_product(7), least_product(1)]
        self.assertEqual(told, [24999999999999999996, 4, 7, 0])


class Pairs(Case):
    def test_small_numbers(self):
        for one in range(-30, 31):
            for other in range(-30, 31):
                self.assertEqual(common(one, other), gcd(one, other))
                self.assertEqual(multiple(one, other), lcm(one, other))
                u, v = combined(one, other)
                self.assertEqual(u * one + v * other, gcd(one, other))

    def test_great_numbers(self):
        for one, other in ((MOST, -MOST), (MOST - 1, MOST), (2 ** 130, -6 ** 50), (MOST, 0), (0, -MOST), (-1, MOST)):
            self.tells(gcd(one, other), common, one, other)
            self.tells(lcm(one, other), multiple, one, other)
            u, v = self.ask(combined, one, other)
            self.assertIs(type(u), int)
            self.assertEqual(u * one + v * other, gcd(one, other))

    def test_wrong_numbers(self):
        for function in (common, multiple, combined):
            for wrong in NO_NUMBERS:
                self.refuses(InvalidNumber(wrong), function, wrong, 1)
                self.refuses(InvalidNumber(wrong), function, 1, wrong)
            wrongs = ((1, None, InvalidNumber(None)), (1, MOST + 1, InvalidNumber(MOST + 1)))
            self.refuses_in_order(function, *wrongs)


class Bases(Case):
    def test_apart_and_divisors_of_small_bases(self):
        for base in range(1, 700):
            pairs = apart(base)
            product = 1
            for prime, often in pairs:
                self.assertIn(prime, PRIMES)
                self.assertGreater(often, 0)
                product *= prime ** often
            self.assertEqual(product, base)
            self.assertEqual(sorted(prime for prime, _ in pairs), [prime for prime, _ in pairs])
            self.assertEqual(divisors(base), tuple(k for k in range(1, base + 1) if base % k == 0))

    def test_great_bases(self):
        self.tells(((2, 12), (5, 12)), apart, 10 ** 12)
        self.tells(((999999999989, 1),), apart, 999999999989)
        self.tells(((999983, 2),), apart, 999983 ** 2)
        self.tells(((2, 39),), apart, 2 ** 39)
        self.tells(((2, 1), (499999999979, 1)), apart, 2 * 499999999979)
        self.tells((1, 999999999989), divisors, 999999999989)
        self.assertEqual(len(self.ask(divisors, 963761198400)), 6720)
        self.assertEqual(divisors(10 ** 12)[-2:], (5 * 10 ** 11, 10 ** 12))

    def test_least_product(self):
        for base in range(1, 300):
            self.assertEqual(least_product(base), next(k for k in range(base + 1) if factorial(k) % base == 0))
        for base, k in ((1, 0), (2, 2), (10 ** 12, 50), (2 ** 39, 42), (999999999989, 999999999989), (3 ** 25, 54)):
            self.tells(k, least_product, base)

    def test_wrong_bases(self):
        for function in (apart, divisors, least_product):
            for wrong in NO_BASES:
                self.refuses(InvalidNumber(wrong), function, wrong)


class Primes(Case):
    def test_is_prime(self):
        for number in range(-50, 1000):
            self.assertIs(is_prime(number), number in PRIMES)
        for number in (-MOST, -997, 0, 1, 10 ** 12, 999983 ** 2, 3215031751, 25326001, 3474749660383 // 4):
            self.tells(False, is_prime, number)
        for number in (2, 997, 1009, 999983, 999999999989):
            self.tells(True, is_prime, number)

    def test_is_prime_of_what_is_too_great(self):
        for number in (10 ** 12 + 1, 10 ** 12 + 39, MOST):
            self.refuses(TooGreat(number), is_prime, number)
        for wrong in NO_NUMBERS:
            self.refuses(InvalidNumber(wrong), is_prime, wrong)

    def test_often_in(self):
        self.tells(3, often_in, -72, 2)
        self.tells(0, often_in, 1, 997)
        self.tells(40, often_in, MOST, 5)
        self.tells(40, often_in, -MOST, 2)
        self.tells(13, often_in, 997 ** 13, 997)
        for number in range(1, 200):
            for prime in PRIMES[:8]:
                often = often_in(number, prime)
                self.assertTrue(number % prime ** often == 0 and number % prime ** (often + 1))

    def test_often_in_product(self):
        self.tells(0, often_in_product, 0, 2)
        self.tells(0, often_in_product, 996, 997)
        self.tells(1, often_in_product, 997, 997)
        for number in range(80):
            for prime in PRIMES[:8]:
                often = often_in_product(number, prime)
                self.assertTrue(factorial(number) % prime ** often == 0 and factorial(number) % prime ** (often + 1))
        self.tells(sum(MOST // 3 ** k for k in range(1, 90)), often_in_product, MOST, 3)

    def test_wrong_arguments(self):
        for wrong in NO_NUMBERS + (0,):
            self.refuses(InvalidNumber(wrong), often_in, wrong, 2)
        for wrong in NO_NUMBERS + (-1, -MOST):
            self.refuses(InvalidNumber(wrong), often_in_product, wrong, 2)
        for function in (often_in, often_in_product):
            for wrong in NO_PRIMES:
                self.refuses(InvalidPrime(wrong), function, 12, wrong)
            self.refuses_in_order(function, (12, "12", InvalidNumber("12")), (2, 4, InvalidPrime(4)))
        self.refuses(InvalidNumber(0), often_in, 0, 4)
        self.refuses(InvalidNumber(-1), often_in_product, -1, 4)
        for prime in PRIMES:
            self.assertEqual(often_in(prime * prime, prime), 2)

"""restworld.powers."""

from itertools import product
from math import factorial, gcd, lcm, prod

from restworld.errors import InvalidNumber, InvalidValues, NotOpen, TooGreat
from restworld.powers import (
    back, common_order, count_open, count_roots, exponents, is_open, leader, order, parts, power_rest, roots,
    tail_and_round, tower_rest,
)
from tests.support import NO_BASES, NO_INTEGERS, NO_NUMBERS, NO_TUPLES, Case

MOST = 10 ** 40
GREAT = 999999999989
NO_POWERS = NO_INTEGERS + (-1, MOST + 1)
NO_GREAT_BASES = NO_INTEGERS + (0, -1, 10 ** 30 + 1)
ONE_BASE = (count_open, common_order, parts, leader)
# The base comes last; True where it may go to 10 ** 30.
ALL = (
    (power_rest, (1, 0), True), (is_open, (1,), True), (back, (1,), True), (order, (1,), False),
    (count_open, (), False), (common_order, (), False), (parts, (), False), (leader, (), False),
    (tail_and_round, (1,), False), (exponents, (1, 1), False), (tower_rest, ((1,),), False),
    (count_roots, (1, 0), False), (roots, (1, 0), False),
)


def open_rests(base):
    return [rest for rest in range(base) if gcd(rest, base) == 1]


def order_of(number, base):
    """The order, by walking."""
    k, rest = 1, number % base
    while rest != 1 % base:
        k, rest = k + 1, rest * number % base
    return k


def walk(number, base):
    """All powers before they come again, and the index of the one that does."""
    seen, rest = [], 1 % base
    while rest not in seen:
        seen.append(rest)
        rest = rest * number % base
    return seen, seen.index(rest)


class Examples(Case):
    def test_examples_of_the_document(self):
        told = [order(2, 7), order(3, 7), common_order(24), count_open(24), parts(24), parts(15), parts(7), leader(7)]
        self.assertEqual(told, [3, 6, 2, 8, (2, 2, 2), (2, 4), (6,), 3])
        self.assertEqual([leader(8), back(3, 10), power_rest(3, 100, 10), is_open(-9, 10)], [None, 7, 1, True])
        told = [tail_and_round(2, 12), tail_and_round(6, 72), exponents(2, 4, 12), exponents(2, 2, 12)]
        self.assertEqual(told, [(2, 2), (3, 1), (2, 2), (1, 0)])
        told = [exponents(2, 5, 12), exponents(3, 5, 7), roots(1, 2, 8), count_roots(4, 2, 15), roots(0, 2, 12)]
        self.assertEqual(told, [None, (5, 6), (1, 3, 5, 7), 4, (0, 6)])
        self.assertEqual(tower_rest((3, 3, 3), 10), 7)
        self.refuses(NotOpen(6), order, 6, 9)


class SmallBases(Case):
    def test_open_rests(self):
        for base in range(1, 151):
            rests = open_rests(base)
            orders = {rest: order_of(rest, base) for rest in rests}
            common = lcm(*orders.values())
            self.assertEqual(count_open(base), len(rests))
            self.assertEqual(common_order(base), common)
            leaders = [rest for rest in rests if orders[rest] == len(rests)]
            self.assertEqual(leader(base), leaders[0] if leaders else None)
            for rest in range(base):
                for number in (rest, rest - base):
                    self.assertIs(is_open(number, base), rest in orders)
                    if rest in orders:
                        self.assertEqual(order(number, base), orders[rest])
                        self.assertEqual(back(number, base) * number % base, 1 % base)
                        self.assertTrue(0 <= back(number, base) < base)
                    else:
                        self.refuses(NotOpen(number), order, number, base)
                        self.refuses(NotOpen(number), back, number, base)
            chain = parts(base)
            self.assertTrue(all(part > 1 for part in chain))
            self.assertTrue(all(part % before == 0 for before, part in zip(chain, chain[1:])))
            # How many rests come to 1 by each power tells which parts there are.
            for k in range(1, common + 1):
                wanted = sum(k % orders[rest] == 0 for rest in rests)
                self.assertEqual(prod(gcd(k, part) for part in chain), wanted)

    def test_powers_that_come_round(self):
        for base in list(range(1, 40)) + [48, 64, 72, 81, 96, 100, 128]:
            for number in range(-3, base + 2):
                seen, tail = walk(number, base)
                self.assertEqual(tail_and_round(number, base), (tail, len(seen) - tail))
                for other in range(-1, base):
                    told = exponents(number, other, base)
                    if other % base not in seen:
                        self.assertIsNone(told)
                    else:
                        k = seen.index(other % base)
                        self.assertEqual(told, (k, 0 if k < tail else len(seen) - tail))

    def test_roots(self):
        for base in list(range(1, 50)) + [64, 72, 81, 96, 105]:
            for power in (0, 1, 2, 3, 4, 6, 8, 12, 35, 10 ** 30, MOST):
                for number in range(-2, base):
                    wanted = tuple(x for x in range(base) if pow(x, power, base) == number % base)
                    self.assertEqual(roots(number, power, base), wanted)
                    if gcd(number, base) == 1:
                        self.assertEqual(count_roots(number, power, base), len(wanted))

    def test_power_rests(self):
        for base in (1, 2, 7, 12, 10 ** 12):
            for number in (-5, -1, 0, 1, 2, 10):
                for power in range(9):
                    self.assertEqual(power_rest(number, power, base), number ** power % base)


class Towers(Case):
    def test_small_towers(self):
        for values in product((1, 2, 3, 4), repeat=3):
            height = values[0] ** (values[1] ** values[2])
            for base in (1, 2, 3, 8, 10, 12, 64, 97, 1000):
                self.assertEqual(tower_rest(values, base), height % base)
        for values, height in (((2, 2, 2, 2), 2 ** 16), ((2, 3, 2, 1), 2 ** 9), ((5, 1, 9), 5), ((1, 9, 9), 1)):
            for base in (1, 7, 48, 10 ** 12):
                self.tells(height % base, tower_rest, values, base)

    def test_tails_of_towers(self):
        # The exponent is less than the tail, as great, and greater.
        for power in range(36, 44):
            self.tells(2 ** power % 2 ** 39, tower_rest, (2, power), 2 ** 39)
            self.tells(6 ** power % (2 ** 30 * 9), tower_rest, (6, power, 1), 2 ** 30 * 9)
            self.tells(10 ** power % 10 ** 12, tower_rest, (10, power), 10 ** 12)
        self.tells(0, tower_rest, (2, 2, 2, 2), 2 ** 16)
        self.tells(2 ** 16, tower_rest, (2, 2, 2, 2), 2 ** 17)
        self.tells(2 ** 64 % 3 ** 20, tower_rest, (2, 4, 3), 3 ** 20)
        self.tells(2 ** 81 % 10 ** 11, tower_rest, (2, 3, 4), 10 ** 11)

    def test_great_towers(self):
        for values in ((7, 7, 7, 7), (2,) * 8, (3, MOST, MOST), (MOST,) * 8, (MOST - 1,) * 8, (12, 1, MOST)):
            for base in (10 ** 12, GREAT, 2 ** 39, 963761198400, 3 ** 25, 1):
                self.tells(self.reckoned(values, base), tower_rest, values, base)
        self.tells(0, tower_rest, (MOST,) * 8, 1)
        self.tells(5, tower_rest, (5, 1, 1, 1, 1, 1, 1, 1), 10)
        self.tells(1, tower_rest, (1,) * 8, 10)
        self.tells(MOST % GREAT, tower_rest, (MOST,), GREAT)
        self.tells(1, tower_rest, (1, MOST, MOST), GREAT)

    def reckoned(self, values, base):
        """By rests by how many open rests there are, and that much more, if the exponent is great."""
        def rest_or_more(values, base):
            if len(values) == 1:
                return values[0] if values[0] < base else values[0] % base + base
            exponent = rest_or_more(values[1:], count_open(base))
            height = 1
            for bit in bin(exponent)[2:]:
                height = cut(height * height, base)
                if bit == "1":
                    height = cut(height * values[0], base)
            return height

        def cut(number, base):
            return number if number < base else number % base + base

        return rest_or_more(values, base) % base

    def test_wrong_towers(self):
        for wrong in NO_TUPLES + ((),):
            self.refuses(InvalidValues(None), tower_rest, wrong, 2)
        for wrong in NO_INTEGERS + (0, -1, MOST + 1):
            self.refuses(InvalidValues(0), tower_rest, (wrong, wrong), 2)
            self.refuses(InvalidValues(2), tower_rest, (1, MOST, wrong, 0), 2)
        self.refuses(InvalidValues(8), tower_rest, (1,) * 9, 2)
        self.refuses(InvalidValues(8), tower_rest, (1,) * 8 + (0, 0), 2)
        self.refuses(InvalidValues(7), tower_rest, (1,) * 7 + (0, 1), 2)


class Edges(Case):
    def test_the_bases_1_and_2(self):
        for number in (0, 1, -5, MOST):
            self.tells(True, is_open, number, 1)
            self.tells(0, back, number, 1)
            self.tells(1, order, number, 1)
            self.tells((0, 1), tail_and_round, number, 1)
            self.tells((0, 1), exponents, number, 7, 1)
            self.tells(0, power_rest, number, 0, 1)
            self.tells((0,), roots, number, 0, 1)
            self.tells(1, count_roots, number, 5, 1)
        for base, least in ((1, 0), (2, 1)):
            self.tells(1, count_open, base)
            self.tells(1, common_order, base)
            self.tells((), parts, base)
            self.tells(least, leader, base)

    def test_powers_of_2(self):
        for often, chain in ((2, (2,)), (3, (2, 2)), (4, (2, 4)), (5, (2, 8)), (39, (2, 2 ** 37))):
            base = 2 ** often
            self.tells(chain, parts, base)
            self.tells(chain[-1], common_order, base)
            self.tells(base // 2, count_open, base)
            self.tells(3 if often == 2 else None, leader, base)
            self.tells(chain[-1], order, 5 if often > 2 else 3, base)
            self.tells(2, order, -1, base)

    def test_great_bases(self):
        self.tells((GREAT - 1,), parts, GREAT)
        self.tells(GREAT - 1, order, leader(GREAT), GREAT)
        self.tells(2, leader, 3 ** 25)
        self.tells((2 * 3 ** 24,), parts, 3 ** 25)
        self.tells((996 * 997 ** 3,), parts, 997 ** 4)
        self.tells(5, leader, 2 * 3 ** 24)
        base = 8 * 9 * 5 * 7 * 11 * 13 * 17 * 19
        chain = parts(base)
        self.assertEqual(prod(chain), count_open(base))
        self.assertEqual(chain[-1], lcm(2, 6, 4, 6, 10, 12, 16, 18))
        self.assertEqual(len(chain), 9)
        self.tells(None, leader, base)
        self.tells(None, leader, 10 ** 12)
        self.assertEqual(prod(parts(10 ** 12)), 4 * 10 ** 11)

    def test_bases_at_their_bounds(self):
        great = 10 ** 30
        self.tells(3 ** 60 % great, power_rest, 3, 60, great)
        self.tells(pow(3, MOST, great), power_rest, 3, MOST, great)
        self.tells(pow(-MOST, MOST, great - 1), power_rest, -MOST, MOST, great - 1)
        self.tells(True, is_open, 10 ** 30 + 1, great)
        self.tells(False, is_open, 0, great)
        self.tells(pow(7, -1, great), back, 7, great)
        self.tells(great - 1, back, -1, great)
        self.refuses(NotOpen(0), back, 0, great)
        self.refuses(NotOpen(-MOST), back, -MOST, great)
        for function, others, is_great in ALL:
            most = great if is_great else 10 ** 12
            for wrong in (NO_GREAT_BASES if is_great else NO_BASES) + (most + 1,):
                self.refuses(InvalidNumber(wrong), function, *others, wrong)
            if function not in (exponents, roots):
                self.ask(function, *others, most)

    def test_the_power_0(self):
        self.tells(1, power_rest, 0, 0, 7)
        self.tells(0, power_rest, 0, 1, 7)
        self.tells(1, power_rest, -MOST, 0, 10 ** 30)
        self.tells((0, 1, 2, 3), roots, 5, 0, 4)
        self.tells((), roots, 2, 0, 4)
        self.tells(4, count_roots, 5, 0, 4)
        self.tells(0, count_roots, 3, 0, 4)
        self.tells(10 ** 12, count_roots, 1, 0, 10 ** 12)
        self.tells((0, 0), exponents, 0, 1, 7)
        self.tells((1, 1), exponents, 0, 0, 7)
        self.tells((1, 1), tail_and_round, 0, 7)

    def test_exponents(self):
        self.tells(None, exponents, 2, 3, 8)
        self.tells((2, 0), exponents, 2, 4, 8)
        self.tells((3, 1), exponents, 2, 0, 8)
        self.tells((3, 1), exponents, -6, 8 * MOST // 10, 8)
        self.tells((0, 999982), exponents, 5, 1, 999983)
        self.tells((1, 999982), exponents, 5, 5, 999983)
        self.tells((0, 0), exponents, 10, 1, 10 ** 6)
        self.tells((6, 1), exponents, 10, 0, 10 ** 6)
        for base in (10 ** 6 + 1, 10 ** 12):
            self.refuses(TooGreat(base), exponents, 1, 1, base)

    def test_roots_at_the_bound(self):
        self.tells(tuple(x for x in range(5000) if x ** 2 % 5000 == 1), roots, 1, 2, 5000)
        self.tells(tuple(x for x in range(4999) if x ** 3 % 4999 == 8), roots, -4999 * 5 + 8, 3, 4999)
        for base in (5001, 10 ** 12):
            self.refuses(TooGreat(base), roots, 1, 2, base)

    def test_counts_of_roots_by_great_bases(self):
        base = factorial(14)
        self.tells(2 ** 7, count_roots, 1, 2, base)
        self.tells(8, count_roots, 1, 2, 10 ** 12)
        self.tells(0, count_roots, -1, 2, 10 ** 12)
        self.tells(1, count_roots, 3, 3, 2 ** 39)
        self.tells(0, count_roots, 5, 2, 2 ** 39)
        self.tells(4, count_roots, 9, 2, 2 ** 39)
        self.tells(2 * 2 ** 37, count_roots, 1, 2 ** 37, 2 ** 39)
        self.tells(GREAT - 1, count_roots, 1, GREAT - 1, GREAT)
        self.tells(1, count_roots, 2, 5 ** 50, 3 ** 20)
        self.refuses(NotOpen(2), count_roots, 2, 3, 10 ** 12)
        self.refuses(NotOpen(0), count_roots, 0, 0, 2)

    def test_tails_and_rounds_by_great_bases(self):
        self.tells((39, 1), tail_and_round, 2, 2 ** 39)
        self.tells((20, 1), tail_and_round, 4, 2 ** 39)
        self.tells((1, 1), tail_and_round, 2 ** 39, 2 ** 39)
        self.tells((12, 1), tail_and_round, 10, 10 ** 12)
        self.tells((12, 4 * 5 ** 11), tail_and_round, 2, 10 ** 12)
        self.tells((0, GREAT - 1), tail_and_round, leader(GREAT), GREAT)
        self.tells((1, 1), tail_and_round, 0, GREAT)
        self.tells((0, 2), tail_and_round, -1, GREAT)


class Wrong(Case):
    def test_numbers(self):
        for wrong in NO_NUMBERS:
            for function in (is_open, back, order, tail_and_round):
                self.refuses(InvalidNumber(wrong), function, wrong, 2)
            for function in (power_rest, count_roots, roots, exponents):
                self.refuses(InvalidNumber(wrong), function, wrong, 1, 2)
            self.refuses(InvalidNumber(wrong), exponents, 1, wrong, 2)

    def test_powers(self):
        for wrong in NO_POWERS:
            for function in (power_rest, count_roots, roots):
                self.refuses(InvalidNumber(wrong), function, 1, wrong, 2)

    def test_several_wrong_arguments(self):
        number, power = (1, None, InvalidNumber(None)), (1, -1, InvalidNumber(-1))
        base, other = (7, 0, InvalidNumber(0)), (1, "1", InvalidNumber("1"))
        for function in (is_open, back, order, tail_and_round):
            self.refuses_in_order(function, number, base)
        for function in (power_rest, count_roots, roots):
            self.refuses_in_order(function, number, power, base)
        self.refuses_in_order(exponents, number, other, base)
        self.refuses_in_order(tower_rest, ((2, 2), (2, 0), InvalidValues(1)), base)

    def test_what_is_told_with_last(self):
        self.refuses(InvalidNumber(0), order, 6, 0)
        self.refuses(InvalidNumber(-3), back, 6, -3)
        self.refuses(InvalidNumber(-1), count_roots, 6, -1, 9)
        self.refuses(InvalidNumber(0), count_roots, 6, 1, 0)
        self.refuses(NotOpen(6), count_roots, 6, 1, 9)
        self.refuses(InvalidNumber(MOST + 1), roots, 1, MOST + 1, 5001)
        self.refuses(InvalidNumber(None), exponents, 1, None, 10 ** 6 + 1)

"""restworld.meeting."""

import random
from math import lcm

from restworld.circles import Circle, circle_of, either, fact_circle, rest_of, share
from restworld.errors import (
    InvalidFacts, InvalidNumber, InvalidRun, InvalidSum, NotACircle, TooGreat, TooMany,
)
from restworld.meeting import exponent_circle, facts_of, lamps_for_zeros, lit_circle, nought_circle, zero_circle
from restworld.powers import exponents
from restworld.runs import tail_and_round_of
from restworld.sums import multiplied
from restworld.zeros import zeros
from tests.support import (
    FIB, FIVE, NO_BASES, NO_FACTS, NO_NUMBERS, NO_SUMS, NO_TUPLES, Case, some_facts, some_sums, value_of,
)

SIZE = 20000
MOST = 10 ** 40
TWO = ((0, 2), (0, 3))
EMPTY, ALL = Circle((), 0, 1, ()), Circle((), 0, 1, (0,))


def held(circle, bound):
    return [number for number in range(bound) if number in circle]


class Asking(Case):
    def circle(self, wanted, function, *given):
        """The function returns a circle equal to the wanted one, by position and by name."""
        told = self.ask(function, *given)
        self.assertIs(type(told), Circle)
        self.assertEqual((told.early, told.start, told.base, told.rests),
                         (wanted.early, wanted.start, wanted.base, wanted.rests), given)


class Examples(Case):
    def test_examples_of_the_document(self):
        third = fact_circle((1, 3))
        told = [rest_of(lit_circle(TWO)) == either(fact_circle((1, 6)), fact_circle((5, 6))),
                zero_circle((-1, 0, 1), 8) == fact_circle((1, 2)), exponent_circle(3, 5, 7).rests, facts_of(third),
                lamps_for_zeros((1, 0, 1), 5), share(lit_circle(FIVE)), nought_circle(FIB, 4).base]
        self.assertEqual(told, [True, True, (5,), ((1, 3),), ((2, 5), (3, 5)), (1, 1), 6])


class LitCircles(Asking):
    def test_against_all_numbers(self):
        for lamps in some_facts(31, 5, 12, 150):
            base = lcm(*[base for _, base in lamps])
            lit = tuple(number for number in range(base) if any(number % base == rest for rest, base in lamps))
            if base <= SIZE:
                self.circle(Circle((), 0, base, lit), lit_circle, lamps)

    def test_lamps_that_cover_and_no_lamps(self):
        self.circle(EMPTY, lit_circle, ())
        for lamps in (((0, 1),), FIVE, ((0, 2), (1, 2)), ((0, 2), (1, 4), (3, 4)), ((0, 1), (5, 10 ** 30))):
            self.circle(ALL, lit_circle, lamps)

    def test_the_least_form_tells_whether_it_is_too_great(self):
        self.circle(Circle((), 0, SIZE, (7,)), lit_circle, ((7, SIZE),))
        self.circle(Circle((), 0, 19998, tuple(n for n in range(19998) if n % 3 == 0 or n % 6666 == 1)), lit_circle,
                    ((0, 3), (1, 6666)))
        # The bases are great, but all that is lit is lit by a lamp with a small one.
        self.circle(fact_circle((1, 3)), lit_circle, ((1, 3), (4, 3 * 10 ** 29), (10 ** 29 * 3 - 2, 3 * 10 ** 29)))
        # Two lamps that are one of half the base.
        self.circle(fact_circle((3, SIZE)), lit_circle, ((3, 2 * SIZE), (3 + SIZE, 2 * SIZE)))
        self.circle(fact_circle((0, 10007)), lit_circle, tuple((10007 * k, 10007 * 11) for k in range(11)))
        covering = ((1, 2), (2, 4), (4, 8), (0, 8))
        self.circle(ALL, lit_circle, covering + ((5, 20011),))

    def test_too_great(self):
        for lamps in (((0, SIZE + 1),), ((0, 2 * SIZE),), ((0, 199), (0, 211)), ((1, 2), (0, 10 ** 30)),
                      ((0, 10 ** 30), (0, 10 ** 30 - 1)), ((3, 2 * SIZE), (4 + SIZE, 2 * SIZE)),
                      tuple((10007 * k, 10007 * 12) for k in range(11)),
                      ((0, 7), (0, 11), (0, 13), (0, 17), (0, 19), (0, 23)), ((0, 20011),), ((5, 20011), (1, 4)),
                      ((1, 2), (4, 3 * 20011), (5, 7 * 20021)), ((3, 2 ** 15),), ((0, 3 ** 10), (1, 5 ** 7)), ((0, 2 ** 99),)):
            self.refuses(TooMany(SIZE), lit_circle, lamps)

    def test_wrong_lamps(self):
        for wrong in NO_TUPLES:
            self.refuses(InvalidFacts(None), lit_circle, wrong)
        for wrong in NO_FACTS:
            self.refuses(InvalidFacts(2), lit_circle, ((0, SIZE + 1), (1, 3), wrong, wrong))
        self.refuses(InvalidFacts(12), lit_circle, ((0, 2),) * 13)
        self.circle(fact_circle((0, 2)), lit_circle, ((0, 2),) * 12)


class ZeroCircles(Asking):
    def test_against_all_numbers(self):
        for terms in some_sums(32, 60):
            for base in (1, 2, 4, 6, 8, 9, 12, 25, 30, 36, 64):
                found = tuple(number for number in range(base) if value_of(terms, number) % base == 0)
                self.circle(Circle((), 0, base, found), zero_circle, terms, base)

    def test_great_bases_with_a_small_least_form(self):
        self.circle(fact_circle((0, 10 ** 4)), zero_circle, (0, 0, 0, 1), 10 ** 12)
        self.circle(ALL, zero_circle, (0,), 10 ** 12)
        self.circle(ALL, zero_circle, (10 ** 12,), 10 ** 12)
        self.circle(EMPTY, zero_circle, (1,), 10 ** 12)
        self.circle(ALL, zero_circle, (0, 10 ** 12, -10 ** 12), 10 ** 12)
        self.circle(fact_circle((0, SIZE)), zero_circle, (0, 10 ** 12 // SIZE), 10 ** 12)
        # 3 divides none of the values, so nothing else is asked.
        self.circle(EMPTY, zero_circle, (1, 0, 3), 3 * 997 ** 3)
        self.circle(EMPTY, zero_circle, (1, 0, 0, 997 ** 3 * 3), 997 ** 3 * 3)
        # All but one of the rests by a prime, and all of them.
        self.circle(fact_circle((0, 7)), zero_circle, (0, 7), 49)
        self.circle(ALL, zero_circle, (0, -2, 0, 0, 0, 0, 0, 2), 14)

    def test_rests_that_make_lesser_bases(self):
        # x * (x - 1) * .. * (x - 11) is divided by 1 * 2 * .. * 12 at each number.
        terms, base = (1,), 1
        for number in range(12):
            terms, base = multiplied(terms, (-number, 1)), base * (number + 1)
        self.circle(ALL, zero_circle, terms, base)
        self.circle(Circle((), 0, 13, tuple(range(12))), zero_circle, terms, 13 * base)
        self.circle(ALL, zero_circle, terms, 2 ** 10 * 3 ** 5 * 5 ** 2)
        halves = tuple(rest for rest in range(2 ** 11) if value_of(terms, rest) % 2 ** 11 == 0)
        self.circle(Circle((), 0, 2 ** 11, halves), zero_circle, terms, 2 * base)
        # By 8 all even numbers are zeros as they are, the odd ones because each two of four are.
        terms, base = (0, 0, 0, -1, 0, 1), 97 * 101
        found = tuple(rest for rest in range(base) if value_of(terms, rest) % base == 0)
        self.circle(Circle((), 0, base, found), zero_circle, terms, 8 * base)

    def test_at_the_bound(self):
        self.circle(fact_circle((1, SIZE)), zero_circle, (-1, 1), SIZE)
        for base in (SIZE + 2, 10 ** 12, 2 ** 15, 2 ** 39):
            self.refuses(TooMany(SIZE), zero_circle, (-1, 1), base)
        self.refuses(TooMany(SIZE), zero_circle, (0, 0, 0, 1), 31 ** 3 * 30 ** 3 * 29)

    def test_great_primes(self):
        for function in (zero_circle, lamps_for_zeros):
            self.refuses(TooGreat(1009), function, (-1, 1), 1009)
            self.refuses(TooGreat(1009), function, (1,), 1009 * 1013)
            self.refuses(TooGreat(999999999989), function, (0,), 999999999989)
            # Ahead of TooMany, and of finding that there is no zero.
            self.refuses(TooGreat(1009), function, (-1, 1), 2 ** 15 * 1009)
            self.refuses(TooGreat(10007), function, (1, 2), 2 * 10007)

    def test_wrong_arguments(self):
        for function in (zero_circle, lamps_for_zeros):
            for wrong in NO_SUMS:
                self.refuses(InvalidSum(wrong), function, wrong, 5)
            for wrong in NO_BASES:
                self.refuses(InvalidNumber(wrong), function, (0, 1), wrong)
            self.refuses_in_order(function, ((0, 1), [0, 1], InvalidSum([0, 1])), (5, 0, InvalidNumber(0)))


class ExponentCircles(Asking):
    def test_none_one_alone_and_a_round(self):
        self.circle(EMPTY, exponent_circle, 2, 5, 12)
        self.circle(Circle((1,), 2, 1, ()), exponent_circle, 2, 2, 12)
        self.circle(Circle((0,), 1, 1, ()), exponent_circle, 2, 1, 12)
        self.circle(Circle((), 2, 2, (0,)), exponent_circle, 2, 4, 12)
        self.circle(Circle((), 2, 2, (1,)), exponent_circle, 2, 8, 12)
        self.circle(fact_circle((5, 6)), exponent_circle, 3, 5, 7)
        self.circle(ALL, exponent_circle, 5, 7, 1)
        self.circle(Circle((), 1, 1, (0,)), exponent_circle, 0, 0, 7)
        self.circle(Circle((0,), 1, 1, ()), exponent_circle, 0, 8, 7)

    def test_against_all_powers(self):
        for base in range(1, 31):
            for number in range(base):
                powers = [pow(number, k) % base for k in range(80)]
                for other in range(base):
                    circle = exponent_circle(number, other, base)
                    self.assertEqual(held(circle, 80), [k for k, rest in enumerate(powers) if rest == other])

    def test_great_numbers_and_bases(self):
        self.circle(fact_circle((1, 2)), exponent_circle, -1, 10 ** 6 - 1, 10 ** 6)
        self.circle(fact_circle((0, 2)), exponent_circle, MOST - 1, 1, 10 ** 6)
        base = 19997
        self.circle(fact_circle((9, exponents(2, 512, base)[1])), exponent_circle, 2, 512, base)
        # 3 is a leader of 65537, and its powers come round with 65536.
        self.refuses(TooMany(SIZE), exponent_circle, 3, 9, 65537)
        self.circle(EMPTY, exponent_circle, 3, 0, 65537)
        self.circle(Circle((), 16, 1, (0,)), exponent_circle, 2, 0, 65536)
        self.circle(Circle((7,), 8, 1, ()), exponent_circle, 2, 128, 65536)

    def test_too_great_bases(self):
        self.circle(ALL, exponent_circle, 1, 1, 10 ** 6)
        for base in (10 ** 6 + 1, 10 ** 12):
            self.refuses(TooGreat(base), exponent_circle, 1, 1, base)

    def test_wrong_arguments(self):
        for wrong in NO_NUMBERS:
            self.refuses(InvalidNumber(wrong), exponent_circle, wrong, 1, 5)
            self.refuses(InvalidNumber(wrong), exponent_circle, 1, wrong, 5)
        for wrong in NO_BASES:
            self.refuses(InvalidNumber(wrong), exponent_circle, 1, 1, wrong)
        self.refuses_in_order(exponent_circle, (1, "1", InvalidNumber("1")), (1, None, InvalidNumber(None)),
                              (10 ** 6, 0, InvalidNumber(0)))
        self.refuses(InvalidNumber(True), exponent_circle, 1, True, 10 ** 12)


class NoughtCircles(Asking):
    def test_against_all_values(self):
        chance = random.Random(33)
        for _ in range(200):
            run = tuple(chance.randint(-12, 12) for _ in range(4))
            base = chance.randint(1, 40)
            tail, many = tail_and_round_of(run, base)
            a, b, x, y = run
            wanted = []
            for index in range(tail + 3 * many):
                if x % base == 0:
                    wanted.append(index)
                x, y = y, a * y + b * x
            circle = self.ask(nought_circle, run, base)
            self.assertEqual(held(circle, tail + 3 * many), wanted)
            self.assertEqual(many % circle.base, 0)

    def test_noughts_that_begin_late_or_never_come(self):
        self.circle(Circle((), 4, 1, (0,)), nought_circle, (0, 4, 1, 1), 8)
        self.circle(Circle((), 10, 1, (0,)), nought_circle, (2, 0, 1, 1), 2 ** 9)
        self.circle(EMPTY, nought_circle, (1, 0, 1, 1), 5)
        self.circle(EMPTY, nought_circle, (1, 1, 2, 1), 5)
        self.circle(Circle((0,), 1, 1, ()), nought_circle, (1, 0, 0, 1), 5)
        self.circle(ALL, nought_circle, FIB, 1)
        self.circle(ALL, nought_circle, (5, 3, 0, 0), 10 ** 12)
        self.circle(fact_circle((0, 6)), nought_circle, FIB, 4)
        self.circle(fact_circle((0, 15)), nought_circle, FIB, 10)

    def test_too_great(self):
        self.refuses(TooGreat(1000003), nought_circle, FIB, 2 * 1000003)
        self.refuses(TooGreat(999999999989), nought_circle, (0, 0, 0, 0), 999999999989)
        # The round by 5 ** k is 4 * 5 ** k.
        self.refuses(TooMany(5000), nought_circle, FIB, 5 ** 5)
        self.circle(fact_circle((0, 625)), nought_circle, FIB, 5 ** 4)

    def test_wrong_arguments(self):
        wrongs = NO_TUPLES + ((), (1, 1, 0), (1, 1, 0, 1, 1), (True, 1, 0, 1), (1, 1, 0, 10 ** 9 + 1), (1, 1, 0, None))
        for wrong in wrongs:
            self.refuses(InvalidRun(wrong), nought_circle, wrong, 5)
        for wrong in NO_BASES:
            self.refuses(InvalidNumber(wrong), nought_circle, FIB, wrong)
        self.refuses_in_order(nought_circle, (FIB, list(FIB), InvalidRun(list(FIB))), (5, True, InvalidNumber(True)))


class FactsOfCircles(Case):
    def test_one_for_each_rest(self):
        self.tells(((1, 3),), facts_of, fact_circle((1, 3)))
        self.tells(((0, 6), (2, 6), (3, 6), (4, 6)), facts_of, either(fact_circle((0, 2)), fact_circle((0, 3))))
        self.tells(((0, 1),), facts_of, ALL)
        self.tells(((0, 2),), facts_of, Circle((0, 1), 5, 4, (0, 2)))
        self.tells(tuple((rest, SIZE) for rest in range(1, SIZE)), facts_of, Circle((), 0, SIZE, tuple(range(1, SIZE))))

    def test_circles_without_rests(self):
        self.tells((), facts_of, EMPTY)
        self.tells((), facts_of, circle_of((0, 3, SIZE - 1)))

    def test_what_is_no_circle(self):
        for wrong in NO_TUPLES + ((), Circle, ((), 0, 1, (0,))):
            self.refuses(NotACircle(wrong), facts_of, wrong)


class LampsForZeros(Case):
    def test_one_for_each_zero(self):
        for terms in some_sums(34, 60):
            for base in (1, 2, 5, 8, 9, 12, 30):
                self.tells(tuple((rest, base) for rest in zeros(terms, base)), lamps_for_zeros, terms, base)
        self.tells((), lamps_for_zeros, (1, 0, 1), 3)
        self.tells(((0, 1),), lamps_for_zeros, (5,), 1)
        self.tells(((0, 10 ** 12),), lamps_for_zeros, (0, 1), 10 ** 12)
        self.tells((), lamps_for_zeros, (2 ** 30, 3 * 2 ** 30), 3 * 2 ** 30)

    def test_forty_and_more(self):
        for many in (39, 40):
            self.tells(tuple((rest, many) for rest in range(many)), lamps_for_zeros, (0,), many)
            self.tells(tuple((rest, 2 * many) for rest in range(0, 2 * many, 2)), lamps_for_zeros, (0, many), 2 * many)
        for terms, base in (((0,), 41), ((0,), 10 ** 12), ((0, 41), 82), ((0, 0, 1), 41 ** 2), ((0, 0, 1), 2 ** 39)):
            self.refuses(TooMany(40), lamps_for_zeros, terms, base)

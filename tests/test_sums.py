"""restworld.sums."""

from itertools import product

from restworld.errors import InvalidNumber, InvalidSum, InvalidValues, TooGreat
from restworld.sums import added, led, multiplied, slope, steps, sum_of_steps, value, value_by
from tests.support import MOST_TERM, NO_BASES, NO_INTEGERS, NO_NUMBERS, NO_SUMS, NO_TUPLES, Case, some_sums, value_of

SQUARE = (0, 0, 1)
MOST = 10 ** 40
TWO = (added, multiplied, led)


def value_of_steps(steps, number):
    """The value told by steps, by their definition."""
    total, factor = 0, 1
    for k, step in enumerate(steps):
        total += step * factor
        factor *= number - k
    return total


class Examples(Case):
    def test_examples_of_the_document(self):
        told = [value(SQUARE, -3), value_by((1, 0, 1), 10 ** 30, 7), slope((5, 3, 0, 2)), steps(SQUARE)]
        self.assertEqual(told, [9, 2, (3, 0, 6), (0, 1, 1)])
        told = [steps((0, 0, 0, 1)), sum_of_steps((0, 1, 1)), added(SQUARE, (0, 1, -1)), multiplied((1, 1), (-1, 1))]
        self.assertEqual(told, [(0, 1, 3, 1), (0, 0, 1), (0, 1), (-1, 0, 1)])
        self.assertEqual(led(SQUARE, (1, 1)), (1, 2, 1))


class Values(Case):
    def test_values_at_small_and_great_numbers(self):
        for terms in some_sums(1, 60, 12, 50):
            for number in (-9, -2, -1, 0, 1, 2, 3, 10, 10 ** 12, MOST, -MOST):
                self.assertEqual(value(terms, number), value_of(terms, number))
                for base in (1, 2, 6, 97, 10 ** 12):
                    self.assertEqual(value_by(terms, number, base), value_of(terms, number) % base)

    def test_sums_of_one_and_of_thirteen_elements(self):
        for number in (0, -1, MOST):
            self.tells(0, value, (0,), number)
            self.tells(-MOST_TERM, value, (-MOST_TERM,), number)
            self.tells(value_of((MOST_TERM,) * 13, number), value, (MOST_TERM,) * 13, number)
            self.tells(value_of((-MOST_TERM,) * 13, number) % 999, value_by, (-MOST_TERM,) * 13, number, 999)
            self.tells(0, value_by, (5, 4), number, 1)
        self.tells(1, value_by, (1,), 5, 10 ** 12)

    def test_slopes(self):
        self.tells((0,), slope, (0,))
        self.tells((0,), slope, (7,))
        self.tells((-4,), slope, (7, -4))
        self.tells(tuple(range(1, 13)), slope, (1,) * 13)
        for terms in some_sums(2, 60):
            wanted = tuple(k * terms[k] for k in range(1, len(terms))) or (0,)
            self.assertEqual(slope(terms), wanted)

    def test_slopes_that_are_too_great(self):
        half = MOST_TERM // 2
        self.tells((0, MOST_TERM), slope, (0, 0, half))
        self.tells((0, -MOST_TERM), slope, (0, 0, -half))
        self.refuses(TooGreat(2 * half + 2), slope, (0, 0, half + 1))
        self.refuses(TooGreat(-2 * half - 2), slope, (0, 0, -half - 1))
        self.refuses(TooGreat(3 * MOST_TERM), slope, (0, MOST_TERM, half, MOST_TERM, -MOST_TERM))
        self.refuses(TooGreat(12 * MOST_TERM), slope, (0,) * 12 + (MOST_TERM,))


class Steps(Case):
    def test_steps_tell_the_same_values(self):
        for terms in some_sums(3, 80, 12, 20):
            told = steps(terms)
            self.assertEqual(len(told), len(terms))
            for number in range(-3, 16):
                self.assertEqual(value_of_steps(told, number), value_of(terms, number))
            self.assertEqual(sum_of_steps(told), terms)

    def test_each_tuple_of_steps(self):
        for many in (1, 2, 3, 4):
            for given in product((-2, 0, 1), repeat=many):
                terms = sum_of_steps(given)
                self.assertTrue(len(terms) == 1 or terms[-1] != 0)
                for number in range(-2, 7):
                    self.assertEqual(value_of(terms, number), value_of_steps(given, number))

    def test_steps_at_the_edges(self):
        self.tells((0,), steps, (0,))
        self.tells((-MOST_TERM,), steps, (-MOST_TERM,))
        self.tells((0,), sum_of_steps, (0,))
        self.tells((0,), sum_of_steps, (0,) * 13)
        self.tells((5,), sum_of_steps, (5, 0, 0))
        self.tells((0, -1, 1), sum_of_steps, (0, 0, 1, 0))
        self.tells((MOST_TERM,), sum_of_steps, (MOST_TERM, 0))
        self.tells((-MOST_TERM, MOST_TERM), sum_of_steps, (-MOST_TERM, MOST_TERM))
        great = steps((MOST_TERM,) * 13)
        self.assertEqual([value_of_steps(great, number) for number in range(-9, 20)],
                         [value_of((MOST_TERM,) * 13, number) for number in range(-9, 20)])
        self.assertGreater(max(great), 10 ** 15)

    def test_sums_of_steps_that_are_too_great(self):
        self.tells((0, -MOST_TERM, MOST_TERM), sum_of_steps, (0, 0, MOST_TERM))
        self.refuses(TooGreat(2 * MOST_TERM), sum_of_steps, (0, MOST_TERM, -MOST_TERM))
        self.refuses(TooGreat(-MOST_TERM - 1), sum_of_steps, (0, -1, MOST_TERM))
        self.refuses(TooGreat(2 * MOST_TERM), sum_of_steps, (1, 0, 0, MOST_TERM))
        self.assertEqual(len(sum_of_steps((1,) * 13)), 13)
        self.refuses(TooGreat(-39916800 * MOST_TERM), sum_of_steps, (0,) * 12 + (MOST_TERM,))

    def test_wrong_steps(self):
        for wrong in NO_TUPLES + ((),):
            self.refuses(InvalidValues(None), sum_of_steps, wrong)
        for wrong in NO_INTEGERS + (MOST_TERM + 1, -MOST_TERM - 1):
            self.refuses(InvalidValues(0), sum_of_steps, (wrong, wrong))
            self.refuses(InvalidValues(2), sum_of_steps, (0, MOST_TERM, wrong, 0))
            self.refuses(InvalidValues(12), sum_of_steps, (0,) * 12 + (wrong, 0))
        self.refuses(InvalidValues(13), sum_of_steps, (0,) * 14)
        self.refuses(InvalidValues(13), sum_of_steps, (0,) * 20 + (None,))
        self.refuses(InvalidValues(3), sum_of_steps, (1, MOST_TERM, MOST_TERM, "1"))


class TwoSums(Case):
    def test_values_of_what_two_make(self):
        sums = list(some_sums(4, 24, 3, 6))
        for one in sums:
            for other in sums:
                both = added(one, other)
                times = multiplied(one, other)
                through = led(one, other)
                for terms in (both, times, through):
                    self.assertTrue(len(terms) == 1 or terms[-1] != 0)
                for number in range(-5, 6):
                    x, y = value_of(one, number), value_of(other, number)
                    self.assertEqual(value_of(both, number), x + y)
                    self.assertEqual(value_of(times, number), x * y)
                    self.assertEqual(value_of(through, number), value_of(one, y))

    def test_nought(self):
        nought = (0,)
        for terms in ((0,), (3,), (1, 2), (0, 0, -5)):
            self.tells(terms, added, terms, nought)
            self.tells(terms, added, nought, terms)
            self.tells(nought, added, terms, tuple(-term for term in terms))
            self.tells(nought, multiplied, terms, nought)
            self.tells(nought, multiplied, nought, terms)
            self.tells(nought, led, nought, terms)
            self.tells((terms[0],), led, terms, nought)

    def test_added_at_the_limits(self):
        most, one = (MOST_TERM,) * 13, (0, 1)
        self.tells((0,), added, most, (-MOST_TERM,) * 13)
        self.tells((MOST_TERM,), added, (MOST_TERM - 1,), (1,))
        self.refuses(TooGreat(MOST_TERM + 1), added, (MOST_TERM,), (1,))
        self.refuses(TooGreat(-MOST_TERM - 1), added, (0, -1), (5, -MOST_TERM))
        self.refuses(TooGreat(MOST_TERM + 1), added, most, one)
        self.refuses(TooGreat(2 * MOST_TERM), added, (0, MOST_TERM, -MOST_TERM), (0, MOST_TERM, -MOST_TERM))

    def test_products_that_are_too_great(self):
        six, seven = (0,) * 6 + (1,), (0,) * 7 + (1,)
        self.tells((0,) * 12 + (1,), multiplied, six, six)
        self.refuses(TooGreat(13), multiplied, six, seven)
        self.refuses(TooGreat(24), multiplied, (1,) * 13, (1,) * 13)
        self.tells((MOST_TERM,), multiplied, (10 ** 6,), (10 ** 6,))
        self.refuses(TooGreat(MOST_TERM + 10 ** 6), multiplied, (10 ** 6 + 1,), (10 ** 6,))
        self.refuses(TooGreat(-2 * MOST_TERM), multiplied, (2,), (1, -MOST_TERM, MOST_TERM))
        # A coefficient that is too great comes ahead of the degree.
        self.refuses(TooGreat(MOST_TERM * MOST_TERM), multiplied, (0,) * 12 + (MOST_TERM,), (0, 0, MOST_TERM))
        self.refuses(TooGreat(2 * MOST_TERM), multiplied, (0, 2) + (0,) * 10 + (1,), (0, 0, MOST_TERM))
        self.refuses(TooGreat(13), multiplied, (MOST_TERM,) * 13, (0, 1))

    def test_sums_led_that_are_too_great(self):
        self.tells((0,) * 12 + (1,), led, (0, 0, 0, 1), (0, 0, 0, 0, 1))
        self.refuses(TooGreat(14), led, (0, 0, 1), (0,) * 7 + (1,))
        self.refuses(TooGreat(144), led, (0,) * 12 + (1,), (0,) * 12 + (1,))
        self.tells((1,), led, (0,) * 12 + (1,), (-1,))
        self.tells((1, 12, 66, 220, 495, 792, 924, 792, 495, 220, 66, 12, 1), led, (0,) * 12 + (1,), (1, 1))
        self.refuses(TooGreat(10 ** 13), led, (0, 10), (MOST_TERM,))
        self.refuses(TooGreat(2 * MOST_TERM), led, (0, 0, 1), (1, MOST_TERM, 0, 0, 0, 0, 0, 1))
        self.refuses(TooGreat(-2 * MOST_TERM), led, (0, 0, 1), (-1, MOST_TERM))

    def test_led_is_not_the_other_way_round(self):
        self.tells((0, 0, 1), led, (0, 1), (0, 0, 1))
        self.tells((1, 0, 1), led, (1, 1), (0, 0, 1))
        self.tells((1, 2, 1), led, (0, 0, 1), (1, 1))


class Wrong(Case):
    def test_sums(self):
        for wrong in NO_SUMS:
            for function, *others in ((value, 0), (value_by, 0, 1), (slope,), (steps,)):
                self.refuses(InvalidSum(wrong), function, wrong, *others)
            for function in TWO:
                self.refuses(InvalidSum(wrong), function, wrong, (1,))
                self.refuses(InvalidSum(wrong), function, (1,), wrong)
        self.tells(1, value, (1,) + (0,) * 11 + (5,), 0)
        self.tells(MOST_TERM, value, (MOST_TERM, -MOST_TERM), 0)

    def test_numbers_and_bases(self):
        for wrong in NO_NUMBERS:
            self.refuses(InvalidNumber(wrong), value, (1,), wrong)
            self.refuses(InvalidNumber(wrong), value_by, (1,), wrong, 2)
        for wrong in NO_BASES:
            self.refuses(InvalidNumber(wrong), value_by, (1,), 0, wrong)

    def test_several_wrong_arguments(self):
        terms, number = ((1, 1), (1, 0), InvalidSum((1, 0))), (0, None, InvalidNumber(None))
        other = ((1, 1), [1], InvalidSum([1]))
        self.refuses_in_order(value, terms, number)
        self.refuses_in_order(value_by, terms, number, (7, 0, InvalidNumber(0)))
        for function in TWO:
            self.refuses_in_order(function, terms, other)
            self.refuses(InvalidSum(()), function, (MOST_TERM,) * 13, ())
            self.refuses(InvalidSum(True), function, True, (MOST_TERM,) * 13)

"""restworld.circles."""

import random
from math import gcd

from restworld.circles import (
    Circle, both, circle_of, count_below, count_gaps, either, fact_circle, first_apart, gaps_between, greatest_gap,
    is_endless, is_within, made, moved, needed, next_in, nth, rest_of, share, shrunk, stretched, sums, without,
)
from restworld.errors import (
    InvalidFact, InvalidIndex, InvalidNumber, InvalidRests, InvalidValues, NotACircle, TooMany,
)
from tests.support import NO_FACTS, NO_INTEGERS, NO_TUPLES, Case

MOST = 10 ** 40
SIZE = 20000
EMPTY, ALL = Circle((), 0, 1, ()), Circle((), 0, 1, (0,))
EVEN, THIRD = fact_circle((0, 2)), fact_circle((1, 3))
TWO = (both, either, without, sums, gaps_between, is_within, first_apart)
# Functions of one circle, and what else they take.
ONE = (
    (rest_of, ()), (stretched, (1,)), (shrunk, (1,)), (moved, (0,)), (is_endless, ()), (share, ()), (next_in, (0,)),
    (count_below, (0,)), (nth, (0,)), (made, ()), (needed, ()), (greatest_gap, ()), (count_gaps, ()),
)
NO_CIRCLES = NO_TUPLES + ((), ((), 0, 1, (0,)), Circle, "Circle by 1")
NO_NUMBERS = NO_INTEGERS + (-1, MOST + 1)


def numbers(one, bound):
    """Its numbers below the bound."""
    return {number for number in range(bound) if number in one}


def told(one):
    return one.early, one.start, one.base, one.rests


def some_circles(seed, often):
    """Some small circles; few of them are told in their least form."""
    chance = random.Random(seed)
    for _ in range(often):
        start, base = chance.randint(0, 13), chance.randint(1, 12)
        if chance.random() < 0.3:
            yield circle_of(tuple(chance.randint(0, 15) for _ in range(chance.randint(0, 5))))
        few, many = chance.choice((0, 0.2, 0.5)), chance.choice((0.1, 0.4, 0.9))
        early = tuple(number for number in range(start) if chance.random() < few)
        yield Circle(early, start, base, tuple(rest for rest in range(base) if chance.random() < many))


def least_form(held, most):
    """The least base, and with it the least start, of what is held below the most."""
    for base in range(1, most // 3):
        start = most - base
        while start > 0 and (start - 1 in held) == (start - 1 + base in held):
            start -= 1
        if start < most // 3:
            return start, base
    return None


class Examples(Case):
    def test_examples_of_the_document(self):
        even, third = EVEN, THIRD
        told = [both(even, third).rests, both(even, third).base, share(either(even, third)),
                rest_of(even) == fact_circle((1, 2)), count_below(third, 10), nth(third, 3), next_in(even, 7), 4 in third,
                first_apart(even, third), moved(third, -2).rests]
        self.assertEqual(told, [(4,), 6, (2, 3), True, 3, 10, 8, True, 0, (2,)])
        told = [Circle((), 0, 4, (0, 2)) == even, Circle((5,), 6, 2, (0,)).early, stretched(third, 2).rests,
                shrunk(third, 2).rests, sums(circle_of((0, 1)), even) == rest_of(circle_of(())),
                gaps_between(third, third) == fact_circle((0, 3)), is_within(stretched(even, 2), even), repr(even)]
        self.assertEqual(told, [True, (5,), (2,), (2,), True, True, True, "Circle by 2"])
        told = [greatest_gap(circle_of((3, 5))), count_gaps(circle_of((3, 5))), needed(circle_of((4, 6, 9, 10))),
                made(circle_of((4, 6))).early, made(circle_of((4, 6))).start, greatest_gap(circle_of((4, 6))),
                greatest_gap(circle_of((1,))), count_gaps(circle_of((1,)))]
        self.assertEqual(told, [7, 4, (4, 6, 9), (0,), 3, None, None, 0])


class Objects(Case):
    def test_each_is_kept_in_its_least_form(self):
        chance = random.Random(3)
        for _ in range(150):
            start, base = chance.randint(0, 12), chance.randint(1, 12)
            early = tuple(number for number in range(start) if chance.random() < 0.5)
            period = chance.choice([step for step in range(1, base + 1) if base % step == 0])
            kept = [rest for rest in range(period) if chance.random() < 0.5]
            rests = tuple(rest for rest in range(base) if rest % period in kept)
            one = Circle(early, start, base, rests)
            held = {number for number in range(60) if (number in early if number < start else number % base in rests)}
            self.assertEqual(numbers(one, 60), held)
            self.assertEqual((one.start, one.base), least_form(held, 60))
            self.assertEqual(one.early, tuple(sorted(number for number in held if number < one.start)))
            self.assertEqual(one.rests, tuple(sorted({number % one.base for number in held if number >= one.start})))
            self.assertEqual(Circle(one.early, one.start, one.base, one.rests), one)
            self.assertEqual(repr(one), f"Circle by {one.base}")

    def test_least_forms(self):
        self.assertEqual(told(Circle((), 9, 6, ())), ((), 0, 1, ()))
        self.assertEqual(told(Circle((), 0, 6, tuple(range(6)))), ((), 0, 1, (0,)))
        self.assertEqual(told(Circle((1, 3), 5, 4, (1, 3))), ((), 0, 2, (1,)))
        self.assertEqual(told(Circle((0, 1, 3), 5, 4, (1, 3))), ((0,), 1, 2, (1,)))
        self.assertEqual(told(Circle((1, 3), 7, 4, (1, 3))), ((1, 3), 6, 2, (1,)))
        self.assertEqual(told(Circle((4,), 20000, 20000, ())), ((4,), 5, 1, ()))
        self.assertEqual(told(Circle((), 20000, 20000, (0,))), ((), 1, 20000, (0,)))
        self.assertEqual(told(Circle((), 20000, 20000, (19999,))), ((), 20000, 20000, (19999,)))
        self.assertEqual(told(Circle((0,), 20000, 20000, (0,))), ((), 0, 20000, (0,)))
        self.assertEqual(told(Circle(tuple(range(20000)), 20000, 20000, tuple(range(20000)))), ((), 0, 1, (0,)))
        self.assertEqual(told(Circle((), 0, 12, (0, 3, 4, 6, 9, 10))), ((), 0, 6, (0, 3, 4)))
        self.assertEqual(told(Circle((), 0, 12, (0, 1, 3, 4, 6, 7, 9))), ((), 0, 12, (0, 1, 3, 4, 6, 7, 9)))

    def test_in_with_any_value(self):
        one = Circle((1, 4), 10, 5, (0, 2))
        for value in NO_INTEGERS + NO_TUPLES + (0, -1, 2, 5, 9, 11, 13, -5, -3, -MOST, MOST + 1):
            self.assertIs(value in one, False, value)
        for value in (1, 4, 10, 12, 15, 17, MOST, MOST + 2, 10 ** 99):
            self.assertIs(value in one, True, value)
        self.assertIs(True in ALL, False)
        self.assertIs(False in ALL, False)
        self.assertIs(-1 in ALL, False)
        self.assertIs(0 in ALL, True)
        self.assertIs(0 in EMPTY, False)
        self.assertIs(True not in circle_of((1,)), True)

    def test_equal_circles(self):
        pairs = (
            (Circle((), 0, 4, (0, 2)), EVEN), (Circle((0,), 1, 6, (0, 2, 4)), EVEN), (Circle((), 5, 9, ()), EMPTY),
            (Circle((3, 5), 6, 1, ()), circle_of((5, 3, 3))), (Circle((0, 1, 2), 3, 1, (0,)), ALL),
        )
        for one, other in pairs:
            self.assertIs(one == other, True)
            self.assertIs(one != other, False)
            self.assertEqual(told(one), told(other))
        different = (EMPTY, ALL, EVEN, THIRD, circle_of((0,)), circle_of((1,)), Circle((), 2, 2, (0,)),
                     Circle((0,), 2, 2, (1,)), fact_circle((1, 2)), Circle((), 1, 1, (0,)))
        for at, one in enumerate(different):
            for behind, other in enumerate(different):
                self.assertIs(one == other, at == behind)
                self.assertIs(one != other, at != behind)

    def test_things_of_another_class(self):
        class Same:
            def __eq__(self, other):
                return True

        for other in NO_CIRCLES + (told(EVEN), repr(EVEN), set(), Same()):
            self.assertIs(EVEN == other, False)
            self.assertIs(EVEN != other, True)

    def test_attributes_cannot_be_taken_for_others(self):
        one = Circle(early=(1,), start=4, base=6, rests=(2, 5))
        self.assertEqual(told(one), ((1,), 3, 3, (2,)))
        for value in told(one):
            self.assertIn(type(value), (int, tuple))

    def test_wrong_arguments(self):
        for wrong in NO_TUPLES:
            self.refuses(InvalidValues(None), Circle, wrong, 0, 1, ())
            self.refuses(InvalidRests(None), Circle, (), 0, 1, wrong)
        for wrong in NO_INTEGERS + (-1, -MOST):
            self.refuses(InvalidValues(0), Circle, (wrong, wrong), 0, 1, ())
            self.refuses(InvalidValues(1), Circle, (0, wrong), 5, 1, ())
            self.refuses(InvalidRests(0), Circle, (), 0, 9, (wrong, wrong))
            self.refuses(InvalidRests(2), Circle, (), 0, 9, (0, 1, wrong))
        for wrong in NO_INTEGERS + (-1, SIZE + 1, MOST):
            self.refuses(InvalidNumber(wrong), Circle, (), wrong, 1, ())
        for wrong in NO_INTEGERS + (0, -1, SIZE + 1, MOST):
            self.refuses(InvalidNumber(wrong), Circle, (), 0, wrong, ())
        self.refuses(InvalidValues(1), Circle, (3, 3), 9, 1, ())
        self.refuses(InvalidValues(2), Circle, (3, 5, 4), 9, 1, ())
        self.refuses(InvalidNumber(0), Circle, (0,), 0, 1, ())
        self.refuses(InvalidNumber(5), Circle, (2, 5), 5, 1, ())
        self.refuses(InvalidNumber(20000), Circle, (20000,), 20000, 1, ())
        self.refuses(InvalidRests(0), Circle, (), 0, 9, (9,))
        self.refuses(InvalidRests(1), Circle, (), 0, 9, (4, 4))
        self.refuses(InvalidRests(2), Circle, (), 0, 9, (4, 5, 0))
        self.refuses(InvalidRests(0), Circle, (), 0, 1, (1,))

    def test_several_wrong_arguments(self):
        self.refuses_in_order(
            Circle, ((), (1, 1), InvalidValues(1)), (3, -1, InvalidNumber(-1)), (5, 0, InvalidNumber(0)),
            ((), (1, 0), InvalidRests(1)),
        )


class Sets(Case):
    def test_what_two_make(self):
        circles = list(some_circles(5, 24))
        for one in circles:
            mine = numbers(one, 500)
            for other in circles:
                its = numbers(other, 500)
                self.assertEqual(numbers(both(one, other), 150), {x for x in mine & its if x < 150})
                self.assertEqual(numbers(either(one, other), 150), {x for x in mine | its if x < 150})
                self.assertEqual(numbers(without(one, other), 150), {x for x in mine - its if x < 150})
                added = {x + y for x in mine if x < 200 for y in its if x + y < 200}
                self.assertEqual(numbers(sums(one, other), 200), added)
                between = {x - y for x in mine for y in its if y < 200 and 0 <= x - y < 100}
                self.assertEqual(numbers(gaps_between(one, other), 100), between)
                self.assertIs(is_within(one, other), mine <= its)
                self.assertEqual(first_apart(one, other), min(mine ^ its, default=None))
                self.assertIs(one == other, mine == its)

    def test_of_one(self):
        for one in list(some_circles(6, 60)) + [EMPTY, ALL]:
            mine = numbers(one, 400)
            self.assertEqual(numbers(rest_of(one), 400), set(range(400)) - mine)
            self.assertIs(is_endless(one), len(mine) > 20)
            top, bottom = share(one)
            self.assertEqual((top * one.base, gcd(top, bottom)), (bottom * len(one.rests), 1))
            for many in (1, 2, 3, 6, 35, 1000):
                self.assertEqual(numbers(stretched(one, many), 400), {x * many for x in mine if x * many < 400})
                self.assertEqual(numbers(shrunk(one, many), 30), {x for x in range(30) if x * many in one})
            for by in (-25, -7, -1, 0, 1, 8, 30):
                self.assertEqual(numbers(moved(one, by), 300), {x + by for x in mine if 0 <= x + by < 300})
            ordered = sorted(mine)
            for number in range(50):
                self.assertEqual(next_in(one, number), next((x for x in ordered if x >= number), None))
                self.assertEqual(count_below(one, number), len([x for x in ordered if x < number]))
                self.assertEqual(nth(one, number), nth_of(ordered, one, number))

    def test_circles_without_any_number(self):
        for one in (EMPTY, EVEN, circle_of((3, 9)), ALL):
            for told in (both(one, EMPTY), both(EMPTY, one), without(EMPTY, one), sums(one, EMPTY), sums(EMPTY, one),
                         gaps_between(one, EMPTY), gaps_between(EMPTY, one), without(one, ALL)):
                self.assertEqual(told, EMPTY)
            self.assertEqual(either(one, EMPTY), one)
            self.assertEqual(without(one, EMPTY), one)
            self.assertEqual(both(ALL, one), one)
            self.tells(True, is_within, EMPTY, one)
            self.tells(True, is_within, one, ALL)
        self.assertEqual(rest_of(EMPTY), ALL)
        self.assertEqual(rest_of(ALL), EMPTY)
        self.tells((0, 1), share, EMPTY)
        self.tells((1, 1), share, ALL)
        self.tells((0, 1), share, circle_of((5,)))
        self.tells(None, next_in, EMPTY, 0)
        self.tells(None, nth, EMPTY, 0)
        self.tells(0, count_below, EMPTY, MOST)
        self.tells(False, is_endless, EMPTY)
        self.tells(None, first_apart, EMPTY, EMPTY)

    def test_moved_below_0(self):
        self.assertEqual(told(moved(circle_of((2, 5)), -3)), ((2,), 3, 1, ()))
        self.assertEqual(moved(circle_of((2, 5)), -6), EMPTY)
        self.assertEqual(moved(Circle((1,), 4, 3, (2,)), -20000), fact_circle((0, 3)))
        self.assertEqual(told(moved(ALL, 5)), ((), 5, 1, (0,)))
        self.assertEqual(told(moved(EMPTY, 20000)), ((), 0, 1, ()))
        for wrong in NO_INTEGERS + (SIZE + 1, -SIZE - 1, MOST):
            self.refuses(InvalidNumber(wrong), moved, EVEN, wrong)

    def test_circles_of_values_and_facts(self):
        self.assertEqual(told(circle_of(())), ((), 0, 1, ()))
        self.assertEqual(told(circle_of((7, 0, 7, 3))), ((0, 3, 7), 8, 1, ()))
        self.assertEqual(circle_of(tuple(range(20000))[::-1]).start, 20000)
        self.refuses(TooMany(20000), circle_of, (20000,))
        self.assertEqual(told(fact_circle((5, 7))), ((), 0, 7, (5,)))
        self.assertEqual(told(fact_circle((0, 1))), ((), 0, 1, (0,)))
        self.assertEqual(told(fact_circle((19999, 20000))), ((), 0, 20000, (19999,)))
        for fact in ((0, 20001), (5, 10 ** 12 + 7), (0, 10 ** 30)):
            self.refuses(TooMany(20000), fact_circle, fact)
        for wrong in NO_TUPLES:
            self.refuses(InvalidValues(None), circle_of, wrong)
        for wrong in NO_INTEGERS + (-1, 20001, MOST):
            self.refuses(InvalidValues(0), circle_of, (wrong, wrong))
            self.refuses(InvalidValues(2), circle_of, (20000, 0, wrong, 1))
        for wrong in NO_FACTS:
            self.refuses(InvalidFact(wrong), fact_circle, wrong)

    def test_numbers_far_away(self):
        one = Circle((1, 4), 10, 6, (0, 3))
        self.tells(min(x for x in range(MOST, MOST + 6) if x in one), next_in, one, MOST)
        self.tells(2 + (MOST - 10 + 1) // 3, count_below, one, MOST)
        self.tells(12 + 3 * (MOST - 2), nth, one, MOST)
        self.tells(MOST, nth, ALL, MOST)
        self.tells(2 * MOST, nth, EVEN, MOST)
        self.tells(4, nth, one, 1)
        self.tells(12, nth, one, 2)
        self.tells(1, next_in, one, 0)
        self.tells(12, next_in, one, 5)
        self.tells(None, nth, circle_of((1, 2)), 2)
        self.tells(None, next_in, circle_of((1, 2)), 3)
        for wrong in NO_NUMBERS:
            self.refuses(InvalidNumber(wrong), next_in, EVEN, wrong)
            self.refuses(InvalidNumber(wrong), count_below, EVEN, wrong)
            self.refuses(InvalidIndex(wrong), nth, EVEN, wrong)


def nth_of(ordered, one, index):
    """The number with this index, told by the ones below a bound that is far enough."""
    if index < len(ordered):
        return ordered[index]
    if not one.rests:
        return None
    number = ordered[-1]
    for _ in range(index - len(ordered) + 1):
        number += 1
        while number not in one:
            number += 1
    return number


class Made(Case):
    def test_made_numbers(self):
        for one in list(some_circles(7, 120)) + [EMPTY, ALL, circle_of((0,)), circle_of((0, 1)), circle_of((6, 10, 15))]:
            bound = 400
            mine = sorted(number for number in numbers(one, bound) if number > 0)
            reached = {0}
            lonely = []
            for number in range(1, bound):
                composed = any(number - x in reached for x in mine if x < number)
                if composed or number in one:
                    reached.add(number)
                if number in one and not composed:
                    lonely.append(number)
            whole = made(one)
            self.assertEqual(numbers(whole, bound), reached)
            self.assertEqual((whole.start, whole.base), least_form(reached, bound))
            self.tells(tuple(lonely), needed, one)
            gaps = sorted(set(range(1, bound)) - reached)
            is_few = gcd(*mine) == 1
            self.tells(len(gaps) if is_few else None, count_gaps, one)
            self.tells(gaps[-1] if is_few and gaps else None, greatest_gap, one)

    def test_gaps_at_the_edges(self):
        for one in (EMPTY, circle_of((0,))):
            self.assertEqual(made(one), circle_of((0,)))
            self.tells((), needed, one)
            self.tells(None, greatest_gap, one)
            self.tells(None, count_gaps, one)
        for one in (ALL, circle_of((1,)), circle_of((0, 1)), Circle((), 1, 1, (0,))):
            self.assertEqual(made(one), ALL)
            self.tells((1,), needed, one)
            self.tells(None, greatest_gap, one)
            self.tells(0, count_gaps, one)
        self.assertEqual(made(EVEN), EVEN)
        self.assertEqual(made(circle_of((7,))), fact_circle((0, 7)))
        self.tells((2,), needed, EVEN)
        self.tells(None, count_gaps, EVEN)
        self.tells(1, greatest_gap, Circle((), 2, 1, (0,)))
        self.tells(1, count_gaps, Circle((), 2, 1, (0,)))
        self.tells((2, 3), needed, Circle((), 2, 1, (0,)))

    def test_great_gaps(self):
        # Two numbers without a common divisor: the greatest gap is their product, less both.
        two = circle_of((19998, 19999))
        self.assertEqual(greatest_gap(two), 19998 * 19999 - 19998 - 19999)
        self.assertEqual(count_gaps(two), 19997 * 19998 // 2)
        self.assertEqual(needed(two), (19998, 19999))
        self.refuses(TooMany(20000), made, two)
        late = Circle((), 20000, 20000, (19999,))
        self.assertEqual(greatest_gap(late), 39999 + 20000 * 39998 - 39999)
        self.assertEqual(needed(late), tuple(39999 + 20000 * k for k in range(39999)))
        self.refuses(TooMany(20000), made, late)
        whole = Circle((), 20000, 20000, tuple(range(20000)))
        self.tells(19999, greatest_gap, whole)
        self.assertEqual(needed(whole), tuple(range(20000, 40000)))
        self.assertEqual(made(whole).early, (0,))
        self.assertEqual(made(whole).start, 20000)

    def test_starts_of_made_circles_at_the_bound(self):
        # The start is (a - 1) * (b - 1): at 101 and 201 it is 20000.
        self.assertEqual(made(circle_of((101, 201))).start, 20000)
        self.refuses(TooMany(20000), made, circle_of((3, 10003)))
        self.assertEqual(made(circle_of((3, 10001))).start, 20000)
        self.assertEqual(made(circle_of((2 * 11, 2 * 15))).base, 2)


class TooGreat(Case):
    def test_the_multiple_of_the_bases(self):
        one, other = fact_circle((0, 141)), fact_circle((0, 142))
        for function in TWO:
            self.refuses(TooMany(20000), function, one, other)
            self.refuses(TooMany(20000), function, fact_circle((1, 20000)), fact_circle((0, 3)))
        self.assertEqual(both(fact_circle((0, 125)), fact_circle((0, 160))), fact_circle((0, 4000)))
        self.assertEqual(both(fact_circle((0, 32)), fact_circle((0, 625))), fact_circle((0, 20000)))
        # The bases of the least forms count.
        self.assertEqual(both(Circle((), 0, 19999, ()), fact_circle((0, 20000))), EMPTY)
        self.assertEqual(either(Circle((), 0, 19998, tuple(range(0, 19998, 2))), EVEN), EVEN)

    def test_least_forms_that_are_too_great(self):
        self.refuses(TooMany(20000), stretched, fact_circle((0, 141)), 142)
        self.assertEqual(stretched(fact_circle((0, 20)), 1000), fact_circle((0, 20000)))
        self.refuses(TooMany(20000), stretched, fact_circle((0, 21)), 1000)
        self.assertEqual(stretched(circle_of((19999,)), 1).start, 20000)
        self.refuses(TooMany(20000), stretched, circle_of((19999,)), 2)
        self.assertEqual(stretched(circle_of((9999,)), 2).early, (19998,))
        self.refuses(TooMany(20000), stretched, circle_of((10000,)), 2)
        self.assertEqual(stretched(EMPTY, 1000), EMPTY)
        self.assertEqual(moved(ALL, 20000).start, 20000)
        self.refuses(TooMany(20000), moved, Circle((), 1, 1, (0,)), 20000)
        self.refuses(TooMany(20000), moved, circle_of((1,)), 19999)
        self.assertEqual(moved(circle_of((1,)), 19998).early, (19999,))
        self.assertEqual(sums(circle_of((10000,)), circle_of((9999,))).early, (19999,))
        self.refuses(TooMany(20000), sums, circle_of((10000,)), circle_of((10000,)))
        self.refuses(TooMany(20000), sums, Circle((), 400, 151, (0,)), fact_circle((0, 132)))
        self.assertEqual(sums(fact_circle((0, 101)), fact_circle((0, 111))).start, 100 * 110)
        self.assertEqual(gaps_between(circle_of((19999,)), circle_of((0, 1))).early, (19998, 19999))
        self.assertEqual(shrunk(fact_circle((0, 20000)), 999).base, 20000)
        self.assertEqual(rest_of(fact_circle((7, 20000))).base, 20000)

    def test_great_circles(self):
        chance = random.Random(9)
        early = tuple(sorted(chance.sample(range(20000), 9000)))
        rests = tuple(sorted(chance.sample(range(19997), 9000)))
        one = Circle(early, 20000, 19997, rests)
        self.assertEqual(told(one)[2:], (19997, rests))
        self.assertEqual(rest_of(rest_of(one)), one)
        self.assertEqual(either(one, both(one, one)), one)
        self.assertEqual(without(one, one), EMPTY)
        self.assertEqual(gaps_between(one, one).start <= 20000, True)
        self.tells(count_below(one, 20000) + 9000, count_below, one, 20000 + 19997)
        self.assertEqual(nth(one, count_below(one, 39997)), next_in(one, 39997))
        self.assertEqual(moved(moved(one, 0), 0), one)


class Wrong(Case):
    def test_circles(self):
        for wrong in NO_CIRCLES:
            for function, others in ONE:
                self.refuses(NotACircle(wrong), function, wrong, *others)
            for function in TWO:
                self.refuses(NotACircle(wrong), function, wrong, EVEN)
                self.refuses(NotACircle(wrong), function, EVEN, wrong)

    def test_many(self):
        for wrong in NO_INTEGERS + (0, -1, 1001):
            self.refuses(InvalidNumber(wrong), stretched, EVEN, wrong)
            self.refuses(InvalidNumber(wrong), shrunk, EVEN, wrong)
        self.assertEqual(shrunk(EVEN, 1000), ALL)

    def test_several_wrong_arguments(self):
        one, other = (EVEN, (0, 2), NotACircle((0, 2))), (EVEN, None, NotACircle(None))
        for function in TWO:
            self.refuses_in_order(function, one, other)
        many, number = (1, 1001, InvalidNumber(1001)), (0, -1, InvalidNumber(-1))
        self.refuses_in_order(stretched, one, many)
        self.refuses_in_order(shrunk, one, many)
        self.refuses_in_order(moved, one, (0, SIZE + 1, InvalidNumber(SIZE + 1)))
        self.refuses_in_order(next_in, one, number)
        self.refuses_in_order(count_below, one, number)
        self.refuses_in_order(nth, one, (0, -1, InvalidIndex(-1)))

    def test_too_many_comes_last(self):
        great = fact_circle((0, 20000))
        self.refuses(NotACircle(7), both, great, 7)
        self.refuses(InvalidNumber(0), stretched, great, 0)
        self.refuses(InvalidNumber(True), moved, circle_of((19999,)), True)
        self.refuses(InvalidValues(1), circle_of, (20000, -1))

    def test_nothing_that_is_passed_is_changed(self):
        one, other = Circle((1, 4), 6, 4, (1,)), Circle((0,), 3, 6, (2, 5))
        before = (told(one), told(other))
        for function in TWO:
            function(one, other)
        for function, others in ONE:
            function(one, *others)
        self.assertEqual((told(one), told(other)), before)

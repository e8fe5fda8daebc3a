"""restworld.hidden."""

import random

from restworld.errors import InvalidAsks, InvalidBases, InvalidFact, InvalidIndex, InvalidNumber, NoNumber, TooGreat
from restworld.hidden import asks_needed, best_base, count_left, known_by, least_left, nth_left, verdict
from tests.support import ASKS, NO_BASES, NO_FACTS, NO_INTEGERS, NO_NUMBERS, NO_TUPLES, Case

MOST = 10 ** 40
TOO_MANY_FALSE = ((0, 2, True),) * 3 + ((0, 2, False),) * 13
# The fact is never told by asks that quarrel, or by a lamp that is lit everywhere.
NOTHING = (((0, 2, True), (1, 2, True)), ((0, 1, False),), ((1, 4, True), (1, 2, False)),
           ((0, 2, False), (1, 2, False)), ((0, 6, True), (0, 10 ** 30, True), (0, 3, False)))
NO_ASKS = tuple(NO_FACTS) + (
    (0, 2), (1, 2), (0, 2, 1), (0, 2, 0), (0, 2, None), (0, 2, "True"), (0, 2, True, True), [0, 2, True], (2, 2, True),
    (True, 2, True), (0, True, True), (-1, 2, False), (0, 0, True), ((0, 2), True), (0, 10 ** 30 + 1, True), (0, 2, [True]),
)
# The functions that take asks, low and high, and what else they take.
ALL = (
    (count_left, ()), (least_left, ()), (nth_left, (0,)), (verdict, ((0, 2),)), (known_by, (6,)), (best_base, ((4, 5),)),
)
# Those that need a number that is left.
MARKED = ((least_left, ()), (verdict, ((0, 2),)), (known_by, (6,)), (best_base, ((4, 5),)))


def is_left(asks, number):
    return all((number % base == rest) is truth for rest, base, truth in asks)


def left_of(asks, low, high):
    return [number for number in range(low, high + 1) if is_left(asks, number)]


def some_asks(seed, often):
    """So often asks, low and high."""
    chance = random.Random(seed)
    for _ in range(often):
        asks = []
        secret = chance.randint(0, 99)
        for _ in range(chance.randint(0, 6)):
            base = chance.randint(1, 9)
            truth = chance.random() < 0.4
            rest = secret % base if truth and chance.random() < 0.9 else chance.randrange(base)
            asks.append((rest, base, truth))
        low = chance.randint(-40, 40)
        yield tuple(asks), low, low + chance.choice((0, 1, 5, 30, 120))


class Examples(Case):
    def test_examples_of_the_document(self):
        asks = ASKS
        told = [count_left(asks, 0, 11), least_left(asks, 2, 99), nth_left(asks, 0, 10 ** 20, 10 ** 10),
                verdict(asks, 0, 11, (1, 6)), verdict(asks, 0, 11, (0, 9)), verdict(asks, 6, 8, (7, 10)),
                known_by(asks, 0, 11, 6), best_base(asks, 0, 11, (4, 5)), asks_needed(0, 99, 10)]
        self.assertEqual(told, [4, 5, 30000000001, "perhaps", "never", "surely", (1, 5), 4, 2])


class AgainstAllNumbers(Case):
    def test_numbers_that_are_left(self):
        for asks, low, high in some_asks(41, 250):
            left = left_of(asks, low, high)
            self.tells(len(left), count_left, asks, low, high)
            if left:
                self.tells(left[0], least_left, asks, low, high)
            else:
                self.refuses(NoNumber(), least_left, asks, low, high)
            for index in sorted({0, len(left) // 2, len(left) - 1}):
                if 0 <= index < len(left):
                    self.tells(left[index], nth_left, asks, low, high, index)
            for index in (len(left), len(left) + 1, -1):
                self.refuses(InvalidIndex(index), nth_left, asks, low, high, index)

    def test_verdicts(self):
        chance, seen = random.Random(42), set()
        for asks, low, high in some_asks(43, 250):
            left = left_of(asks, low, high)
            for _ in range(4):
                base = chance.randint(1, 12)
                fact = (chance.randrange(base), base)
                fitting = len([number for number in left if number % base == fact[0]])
                if not left:
                    self.refuses(NoNumber(), verdict, asks, low, high, fact)
                else:
                    wanted = "never" if not fitting else "surely" if fitting == len(left) else "perhaps"
                    seen.add(wanted)
                    self.tells(wanted, verdict, asks, low, high, fact)
        self.assertEqual(seen, {"never", "surely", "perhaps"})

    def test_rests_and_best_bases(self):
        chance = random.Random(44)
        for asks, low, high in some_asks(45, 200):
            left = left_of(asks, low, high)
            bases = tuple(chance.randint(1, 12) for _ in range(chance.randint(1, 12)))
            if not left:
                self.refuses(NoNumber(), known_by, asks, low, high, bases[0])
                self.refuses(NoNumber(), best_base, asks, low, high, bases)
                continue
            most = []
            for base in bases:
                rests = [number % base for number in left]
                self.tells(tuple(sorted(set(rests))), known_by, asks, low, high, base)
                most.append(max(rests.count(rest) for rest in rests))
            self.tells(bases[most.index(min(most))], best_base, asks, low, high, bases)


class Asks(Case):
    def test_no_asks(self):
        self.tells(7, count_left, (), -3, 3)
        self.tells(-3, least_left, (), -3, 3)
        self.tells(3, nth_left, (), -3, 3, 6)
        self.tells("surely", verdict, (), -3, 3, (0, 1))
        self.tells("perhaps", verdict, (), -3, 3, (0, 7))
        self.tells("never", verdict, (), -3, 3, (4, 9))
        self.tells((0, 1, 2, 3, 6, 7, 8), known_by, (), -3, 3, 9)
        self.tells(7, best_base, (), -3, 3, (6, 7, 8, 1000))

    def test_forty_and_forty_one(self):
        forty = ((1, 2, True),) * 28 + ((0, 3, False),) * 12
        for function, more in ALL:
            self.assertEqual(function(forty, 0, 11, *more), function(ASKS, 0, 11, *more))
            self.refuses(InvalidAsks(40), function, forty + ((1, 2, True),), 0, 11, *more)
            self.refuses(InvalidAsks(40), function, forty + (None, None), 0, 11, *more)

    def test_twelve_and_thirteen_that_are_false(self):
        twelve = tuple((rest, 13, False) for rest in range(12))
        for function, more in ALL:
            self.assertEqual(function(twelve, 0, 99, *more), function(((12, 13, True),), 0, 99, *more))
            self.refuses(InvalidAsks(12), function, twelve + ((0, 1, False),), 0, 99, *more)
            self.refuses(InvalidAsks(15), function, TOO_MANY_FALSE, 0, 99, *more)
            # What is no ask at all comes first if it stands first.
            self.refuses(InvalidAsks(11), function, twelve[:11] + (5,) + twelve, 0, 99, *more)

    def test_what_are_no_asks(self):
        for function, more in ALL:
            for wrong in NO_TUPLES + (list(ASKS),):
                self.refuses(InvalidAsks(None), function, wrong, 0, 11, *more)
            for wrong in NO_ASKS:
                self.refuses(InvalidAsks(0), function, (wrong,), 0, 11, *more)
                self.refuses(InvalidAsks(2), function, ASKS + (wrong, wrong), 0, 11, *more)

    def test_nothing_passed_is_changed(self):
        asks = ((1, 2, True), (0, 3, False))
        for function, more in ALL:
            function(asks, 0, 11, *more)
            self.assertEqual(asks, ((1, 2, True), (0, 3, False)))


class Spans(Case):
    def test_one_number(self):
        for number in (-7, 0, 5, MOST, -MOST):
            for asks in ((), ASKS, ((number % 5, 5, True),), ((number % 5, 5, False),)):
                wanted = int(is_left(asks, number))
                self.tells(wanted, count_left, asks, number, number)
                if wanted:
                    self.tells(number, least_left, asks, number, number)
                    self.tells(number, nth_left, asks, number, number, 0)
                    self.tells((number % 7,), known_by, asks, number, number, 7)
                    self.tells("surely", verdict, asks, number, number, (number % 10 ** 30, 10 ** 30))
                    self.tells("never", verdict, asks, number, number, ((number + 1) % 10 ** 30, 10 ** 30))
                    self.tells(9, best_base, asks, number, number, (9, 5, 1000))

    def test_very_many_numbers(self):
        self.tells(2 * MOST + 1, count_left, (), -MOST, MOST)
        self.tells(MOST, nth_left, (), -MOST, MOST, 2 * MOST)
        self.refuses(InvalidIndex(2 * MOST + 1), nth_left, (), -MOST, MOST, 2 * MOST + 1)
        many = count_left(ASKS, -MOST, MOST)
        self.assertEqual(nth_left(ASKS, -MOST, MOST, many - 1), max(n for n in range(MOST - 9, MOST + 1) if is_left(ASKS, n)))
        self.refuses(InvalidIndex(many), nth_left, ASKS, -MOST, MOST, many)
        self.tells(3 * 10 ** 10 + 1, nth_left, ASKS, 0, MOST, 10 ** 10)
        self.tells("perhaps", verdict, ASKS, -MOST, MOST, (1, 6))
        self.tells("surely", verdict, ((1, 6, True),), -MOST, MOST, (1, 3))
        self.tells("never", verdict, ASKS, -MOST, MOST, (3, 6))
        self.tells((1, 5), known_by, ASKS, -MOST, MOST, 6)
        self.tells(tuple(range(1, 1000, 2)), known_by, ASKS, -MOST, MOST, 1000)
        self.tells(997, best_base, ASKS, -MOST, MOST, (1, 2, 3, 4, 997, 998, 1000, 12))

    def test_counts_of_many_numbers(self):
        # Of 30030 numbers in a row just so many are left.
        asks = tuple((0, prime, False) for prime in (2, 3, 5, 7, 11, 13))
        self.tells(5760 * 10 ** 30, count_left, asks, 1, 30030 * 10 ** 30)
        self.tells(5760 * 10 ** 30 * 2, count_left, asks, -30030 * 10 ** 30, 30030 * 10 ** 30)
        self.tells(17, nth_left, asks, 1, MOST, 1)
        self.tells(1 + 30030 * 10 ** 30, nth_left, asks, 1, MOST, 5760 * 10 ** 30)

    def test_great_bases(self):
        base = 10 ** 30
        asks = ((7, base, True), (7 + base // 2, base, False))
        self.tells(2, count_left, asks, 0, base + 7)
        self.tells(7 - base, least_left, asks, -base, base)
        self.tells(7 + 5 * base, nth_left, asks, 0, MOST, 5)
        asks = tuple((rest, base - 1, False) for rest in range(12))
        self.tells(base - 1 - 12, count_left, asks, 0, base - 2)
        self.tells(12, least_left, asks, 0, base)
        self.tells(base + 11, nth_left, asks, 0, MOST, base - 13)

    def test_high_below_low(self):
        for function, more in ALL:
            self.refuses(InvalidNumber(4), function, ASKS, 5, 4, *more)
            self.refuses(InvalidNumber(-MOST), function, ASKS, MOST, -MOST, *more)

    def test_wrong_numbers(self):
        for function, more in ALL:
            for wrong in NO_NUMBERS:
                self.refuses(InvalidNumber(wrong), function, ASKS, wrong, 9, *more)
                self.refuses(InvalidNumber(wrong), function, ASKS, 0, wrong, *more)
            self.assertIsNotNone(function(ASKS, -MOST, MOST, *more))


class NothingLeft(Case):
    def test_no_number_is_left(self):
        for asks in NOTHING:
            self.tells(0, count_left, asks, -MOST, MOST)
            self.refuses(InvalidIndex(0), nth_left, asks, -MOST, MOST, 0)
            for function, more in MARKED:
                self.refuses(NoNumber(), function, asks, -MOST, MOST, *more)
        for asks, low, high in ((ASKS, 2, 4), (ASKS, 8, 10), (((0, 10 ** 30, True),), 1, 10 ** 30 - 1)):
            self.tells(0, count_left, asks, low, high)
            self.refuses(InvalidIndex(0), nth_left, asks, low, high, 0)
            for function, more in MARKED:
                self.refuses(NoNumber(), function, asks, low, high, *more)

    def test_it_comes_behind_all_else(self):
        for asks in NOTHING:
            self.refuses(InvalidFact((2, 2)), verdict, asks, 0, 9, (2, 2))
            self.refuses(InvalidNumber(0), known_by, asks, 0, 9, 0)
            self.refuses(TooGreat(1001), known_by, asks, 0, 9, 1001)
            self.refuses(TooGreat(10 ** 12), known_by, asks, 0, 9, 10 ** 12)
            self.refuses(InvalidBases(1), best_base, asks, 0, 9, (2, 0))
            self.refuses(InvalidNumber(8), least_left, asks, 9, 8)


class FurtherArguments(Case):
    def test_wrong_indexes(self):
        for wrong in NO_INTEGERS + (-1, 4, MOST, 10 ** 99):
            self.refuses(InvalidIndex(wrong), nth_left, ASKS, 0, 11, wrong)
        self.tells(11, nth_left, ASKS, 0, 11, 3)

    def test_wrong_facts(self):
        for wrong in NO_FACTS:
            self.refuses(InvalidFact(wrong), verdict, ASKS, 0, 11, wrong)

    def test_wrong_bases(self):
        for wrong in NO_BASES:
            self.refuses(InvalidNumber(wrong), known_by, ASKS, 0, 11, wrong)
        for wrong in (1001, 10 ** 12):
            self.refuses(TooGreat(wrong), known_by, ASKS, 0, 11, wrong)
        self.tells((1, 5, 7, 11), known_by, ASKS, 0, 11, 1000)
        self.tells((0,), known_by, ASKS, 0, 11, 1)

    def test_wrong_tuples_of_bases(self):
        for wrong in NO_TUPLES + ((),):
            self.refuses(InvalidBases(None), best_base, ASKS, 0, 11, wrong)
        for wrong in NO_INTEGERS + (0, -1, 1001):
            self.refuses(InvalidBases(0), best_base, ASKS, 0, 11, (wrong,))
            self.refuses(InvalidBases(2), best_base, ASKS, 0, 11, (4, 5, wrong, wrong))
        self.refuses(InvalidBases(12), best_base, ASKS, 0, 11, (4,) * 13)
        self.refuses(InvalidBases(11), best_base, ASKS, 0, 11, (4,) * 11 + (0, 0))
        self.tells(4, best_base, ASKS, 0, 11, (4,) * 12)

    def test_equal_bases_and_ties(self):
        self.tells(7, best_base, ASKS, 0, 11, (1, 5, 7, 5, 7))
        self.tells(5, best_base, ASKS, 0, 11, (1, 5, 4, 5, 1))
        self.tells(1000, best_base, ASKS, 0, 11, (1000, 999, 500))
        self.tells(3, best_base, (), 0, 11, (2, 3, 3, 2))
        self.tells(1, best_base, (), 5, 5, (1, 2))
        # By 6 and by 4 two of the four numbers go together; by 12 none.
        self.tells(6, best_base, ASKS, 0, 11, (6, 3))
        self.tells(12, best_base, ASKS, 0, 11, (6, 3, 12))

    def test_order_of_errors(self):
        behind = {
            nth_left: (0, 4, InvalidIndex(4)), verdict: ((0, 2), (2, 2), InvalidFact((2, 2))),
            known_by: (6, 1001, TooGreat(1001)), best_base: ((4,), [4], InvalidBases(None)),
        }
        for function, _ in ALL:
            more = [behind[function]] if function in behind else []
            self.refuses_in_order(function, (ASKS, list(ASKS), InvalidAsks(None)), (0, None, InvalidNumber(None)),
                                  (11, MOST + 1, InvalidNumber(MOST + 1)), *more)


class AsksNeeded(Case):
    def test_least_power(self):
        for base in range(2, 12):
            for many in range(1, 200):
                wanted = next(k for k in range(99) if base ** k >= many)
                self.tells(wanted, asks_needed, -7, many - 8, base)

    def test_powers_of_the_base(self):
        for base in (2, 3, 10, 1000, 10 ** 12):
            power, k = 1, 0
            while power < MOST:
                self.tells(k, asks_needed, 1, power, base)
                self.tells(k + 1, asks_needed, 1, power + 1, base)
                if power > 1:
                    self.tells(k if power > 2 else 0, asks_needed, 1, power - 1, base)
                power, k = power * base, k + 1

    def test_great_spans(self):
        self.tells(40, asks_needed, 1, MOST, 10)
        self.tells(41, asks_needed, 0, MOST, 10)
        self.tells(41, asks_needed, -MOST, MOST, 10)
        self.tells(4, asks_needed, -MOST, MOST, 10 ** 12)
        for number in (-MOST, 0, MOST):
            self.tells(0, asks_needed, number, number, 2)
        self.tells(1, asks_needed, 0, 1, 10 ** 12)

    def test_wrong_arguments(self):
        for wrong in NO_NUMBERS:
            self.refuses(InvalidNumber(wrong), asks_needed, wrong, 9, 10)
            self.refuses(InvalidNumber(wrong), asks_needed, 0, wrong, 10)
        for wrong in NO_BASES + (1,):
            self.refuses(InvalidNumber(wrong), asks_needed, 0, 9, wrong)
        self.refuses(InvalidNumber(8), asks_needed, 9, 8, 10)
        self.refuses_in_order(asks_needed, (0, "0", InvalidNumber("0")), (9, None, InvalidNumber(None)),
                              (10, 1, InvalidNumber(1)))

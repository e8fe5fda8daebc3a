"""What the tests of all modules need."""

import inspect
import random
import unittest
from itertools import combinations

# What the document's examples are about.
THREE = ((2, 3), (3, 5), (2, 7))
FIVE = ((0, 2), (0, 3), (1, 4), (5, 6), (7, 12))
SQUARE, LINE, PLUS, ONES = (0, 0, 1), (0, 1), (1, 0, 1), (-1, 0, 1)
FIB = (1, 1, 0, 1)
ASKS = ((1, 2, True), (0, 3, False))

NO_INTEGERS = (True, False, None, "1", "", b"1", [1], (1,), (), {1: 1}, {1}, object(), int, len, 1j)

NO_TUPLES = (None, True, 0, 7, "", "ab", b"ab", [], [(0, 1)], {}, {(0, 1)}, object(), tuple)

NO_FACTS = (
    True, None, 0, 5, "01", "", b"01", [0, 1], {0: 1}, object(), (), (0,), (0, 1, 1), ((0, 1),), (1, 1), (2, 2), (3, 2),
    (-1, 2), (0, 0), (0, -1), (0, -2), (0, 10 ** 30 + 1), (10 ** 30, 10 ** 30), (False, 1), (0, True), (True, 2),
    (None, 2), (0, None), ("0", 1), (0, "1"), ((0, 1), 2), ([], []), (0, [1]),
)

MOST_TERM = 10 ** 12

NO_SUMS = NO_TUPLES + (
    (), (0, 0), (1, 0), (5, 3, 0), (0,) * 13, (1,) * 14, (0,) * 13 + (1,), (1,) * 13 + (0,), (True,), (1, True), (False,),
    (None,), (1, None, 1), ("1",), ([1],), ((1,),), (b"1",), (1, [], 1), (MOST_TERM + 1,), (0, -MOST_TERM - 1),
    (MOST_TERM + 1, 1), (1, 2, 10 ** 40),
)

NO_BASES = NO_INTEGERS + (0, -1, -7, 10 ** 12 + 1, 10 ** 30)

NO_NUMBERS = NO_INTEGERS + (10 ** 40 + 1, -10 ** 40 - 1)

NO_PRIMES = NO_INTEGERS + (0, 1, -2, 4, 9, 91, 961, 999, 1000, 1009, 10 ** 12 + 39)


def same(one, other):
    """Equal, of the same class, in tuples too."""
    if type(one) is not type(other):
        return False
    if isinstance(one, tuple):
        return len(one) == len(other) and all(same(x, y) for x, y in zip(one, other))
    return one == other


class Case(unittest.TestCase):
    """A test case that calls by position and by name."""

    def ask(self, function, *given):
        """What the function returns, the same by position, by name in any order, and twice."""
        names = list(inspect.signature(function).parameters)
        self.assertEqual(len(names), len(given))
        told = function(*given)
        named = list(zip(names, given))
        for again in (function(**dict(named)), function(**dict(named[::-1])), function(*given[:1], **dict(named[1:]))):
            self.assertTrue(same(told, again), (told, again))
        return told

    def tells(self, wanted, function, *given):
        """The function returns just this."""
        told = self.ask(function, *given)
        self.assertTrue(same(told, wanted), f"{function.__name__}{given!r} is {told!r}, not {wanted!r}")

    def refuses(self, wanted, function, *given):
        """The function raises an error of this class with these attributes, by position and by name."""
        names = list(inspect.signature(function).parameters)
        for call in (lambda: function(*given), lambda: function(**dict(zip(names, given)))):
            try:
                told = call()
            except type(wanted) as error:
                self.assertIs(type(error), type(wanted))
                self.assertEqual(list(vars(error)), list(vars(wanted)))
                for name, value in vars(wanted).items():
                    got = getattr(error, name)
                    self.assertTrue(got is value or same(got, value), f"{name} is {got!r}, not {value!r}")
            else:
                self.fail(f"{function.__name__}{given!r} is {told!r}, not {wanted!r}")

    def refuses_in_order(self, function, *arguments):
        """With an argument and all behind it wrong, the error of this one comes; each is (right, wrong, error)."""
        rights = [right for right, _, _ in arguments]
        wrongs = [wrong for _, wrong, _ in arguments]
        for at, (_, wrong, error) in enumerate(arguments):
            self.refuses(error, function, *rights[:at], *wrongs[at:])
            self.refuses(error, function, *rights[:at], wrong, *rights[at + 1:])


def index_sets(many):
    """All sets of so many indexes, ordered by how many they are, then as tuples."""
    return [one for size in range(many + 1) for one in combinations(range(many), size)]


def least_of(sets):
    """Those of the sets that contain no other one."""
    return tuple(one for one in sets if not any(set(other) < set(one) for other in sets))


def greatest_of(sets):
    """Those of the sets that no other one contains, as tuples ascending."""
    return tuple(sorted(one for one in sets if not any(set(other) > set(one) for other in sets)))


def some_facts(seed, many, most, often):
    """So often a tuple of facts, each of up to so many, with bases up to the most, the same ones at each run."""
    chance = random.Random(seed)
    for _ in range(often):
        bases = [chance.randint(1, most) for _ in range(chance.randint(0, many))]
        yield tuple((chance.randrange(base), base) for base in bases)


def value_of(terms, number):
    """The value of the sum, told by its definition."""
    return sum(coefficient * number ** power for power, coefficient in enumerate(terms))


def some_sums(seed, often, degree=6, most=12):
    """So often a sum up to this degree, coefficients up to the most in size, the same ones at each run."""
    chance = random.Random(seed)
    for _ in range(often):
        terms = [chance.randint(-most, most) for _ in range(chance.randint(1, degree + 1))]
        while len(terms) > 1 and terms[-1] == 0:
            terms.pop()
        yield tuple(terms)

"""restworld.rings."""

from restworld.errors import InvalidNumber, InvalidSum, TooGreat
from restworld.rings import after, longest_tail, ring_of, rings, tail
from tests.support import NO_BASES, NO_INTEGERS, NO_NUMBERS, NO_SUMS, Case, some_sums, value_of

SQUARE, MIXED = (0, 0, 1), (0, 1, 2)
MOST = 10 ** 40
ALL = (
    (rings, ()), (ring_of, (0,)), (tail, (0,)), (longest_tail, ()), (after, (0, 0)),
)


def walk(terms, base, number):
    """All rests to which one comes from the number, and the ring."""
    path = [number % base]
    while True:
        rest = value_of(terms, path[-1]) % base
        if rest in path:
            return path, path[path.index(rest):]
        path.append(rest)


def least_first(ring):
    at = ring.index(min(ring))
    return tuple(ring[at:] + ring[:at])


class Examples(Case):
    def test_examples_of_the_document(self):
        told = [rings(MIXED, 4), rings(SQUARE, 4), longest_tail(SQUARE, 4), ring_of((1, 1), 5, 13), tail(SQUARE, 16, 2)]
        self.assertEqual(told, [((1, 2), (2, 1)), ((1, 2),), 1, (0, 1, 2, 3, 4), 2])
        told = [after((1, 1), 10, 3, 10 ** 40), after(SQUARE, 7, 3, 10 ** 40), rings((1, 0, 1), 7)]
        self.assertEqual(told, [3, 4, ((1, 2),)])


class Small(Case):
    def test_small_bases(self):
        for base in (1, 2, 3, 4, 5, 7, 8, 12, 23, 36):
            for terms in some_sums(base, 25, 4, 9):
                found, longest = set(), 0
                for number in range(base):
                    path, ring = walk(terms, base, number)
                    found.add(least_first(ring))
                    begin = len(path) - len(ring)
                    longest = max(longest, begin)
                    self.assertEqual(ring_of(terms, base, number - base), least_first(ring))
                    self.assertEqual(tail(terms, base, number + 3 * base), begin)
                    rest = number
                    for times in range(base + 5):
                        self.assertEqual(after(terms, base, number, times), rest)
                        rest = value_of(terms, rest) % base
                self.assertEqual(longest_tail(terms, base), longest)
                lengths = sorted(len(ring) for ring in found)
                self.assertEqual(rings(terms, base), tuple((one, lengths.count(one)) for one in sorted(set(lengths))))

    def test_ring_of_begins_with_the_least_rest_and_goes_on_as_it_is_led(self):
        self.tells((0, 2, 4, 1, 3), ring_of, (2, 1), 5, 4)
        self.tells((1, 2, 4), ring_of, (0, 2), 7, 4)
        self.tells((3, 6, 5), ring_of, (0, 2), 7, 5)
        self.tells((0,), ring_of, (0, 2), 7, 70)

    def test_numbers_below_0_and_far_from_0(self):
        for number in (-1, -13, -MOST, MOST, MOST - 1):
            self.tells(ring_of(SQUARE, 100, number % 100), ring_of, SQUARE, 100, number)
            self.tells(tail(SQUARE, 64, number % 64), tail, SQUARE, 64, number)
            self.tells(number % 100, after, SQUARE, 100, number, 0)
            self.tells(number ** 2 % 100, after, SQUARE, 100, number, 1)


class Edges(Case):
    def test_times_at_its_bounds(self):
        self.tells(3, after, (1, 1), 10, 3, 0)
        self.tells(0, after, (1, 1), 1, 3, MOST)
        self.tells((7 + MOST) % 4999, after, (1, 1), 4999, 7, MOST)
        self.tells((7 + MOST - 1) % 5000, after, (1, 1), 5000, 7, MOST - 1)
        self.tells(5, after, (5,), 10, 3, MOST)
        for wrong in NO_INTEGERS + (-1, MOST + 1):
            self.refuses(InvalidNumber(wrong), after, (1, 1), 10, 0, wrong)

    def test_the_base_5000_and_greater_ones(self):
        self.tells(((5000, 1),), rings, (1, 1), 5000)
        self.tells(((1, 5000),), rings, (0, 1), 5000)
        self.tells(tuple(range(5000)), ring_of, (1, 1), 5000, 77)
        self.tells(0, tail, (1, 1), 5000, 3)
        self.tells(0, longest_tail, (1, 1), 5000)
        self.tells(1, longest_tail, (7,), 5000)
        self.tells(12, longest_tail, (0, 2), 4096)
        self.tells(12, tail, (0, 2), 4096, 1)
        self.tells(0, tail, (0, 2), 4096, 4096)
        for base in (5001, 10 ** 12):
            for function, others in ALL:
                self.refuses(TooGreat(base), function, (0, 1), base, *others)

    def test_the_base_1(self):
        self.tells(((1, 1),), rings, (5, 4, 3), 1)
        self.tells((0,), ring_of, (5, 4, 3), 1, 9)
        self.tells(0, tail, (5, 4, 3), 1, 9)
        self.tells(0, longest_tail, (5, 4, 3), 1)

    def test_constants_and_nought(self):
        self.tells(((1, 1),), rings, (0,), 9)
        self.tells((0,), ring_of, (0,), 9, 5)
        self.tells(1, tail, (0,), 9, 5)
        self.tells(0, tail, (0,), 9, -18)
        self.tells((8,), ring_of, (-1,), 9, 5)


class Wrong(Case):
    def test_sums_bases_and_numbers(self):
        for wrong in NO_SUMS:
            for function, others in ALL:
                self.refuses(InvalidSum(wrong), function, wrong, 2, *others)
        for wrong in NO_BASES:
            for function, others in ALL:
                self.refuses(InvalidNumber(wrong), function, (1,), wrong, *others)
        for wrong in NO_NUMBERS:
            self.refuses(InvalidNumber(wrong), ring_of, (1,), 2, wrong)
            self.refuses(InvalidNumber(wrong), tail, (1,), 2, wrong)
            self.refuses(InvalidNumber(wrong), after, (1,), 2, wrong, 0)

    def test_several_wrong_arguments(self):
        terms, base = ((0, 1), (), InvalidSum(())), (7, 0, InvalidNumber(0))
        number, times = (3, None, InvalidNumber(None)), (3, -1, InvalidNumber(-1))
        for function in (rings, longest_tail):
            self.refuses_in_order(function, terms, base)
        for function in (ring_of, tail):
            self.refuses_in_order(function, terms, base, number)
        self.refuses_in_order(after, terms, base, number, times)

    def test_a_base_that_is_too_great_comes_last(self):
        for function in (ring_of, tail):
            self.refuses(InvalidNumber(True), function, (0, 1), 5001, True)
        self.refuses(InvalidNumber(MOST + 1), after, (0, 1), 5001, MOST + 1, -1)
        self.refuses(InvalidNumber(-1), after, (0, 1), 5001, 0, -1)
        self.refuses(TooGreat(5001), after, (0, 1), 5001, 0, 0)
        self.refuses(InvalidSum((1, 0)), rings, (1, 0), 5001)

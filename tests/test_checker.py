"""restworld.checker."""

import random
from math import gcd, lcm

from restworld.checker import accepts
from tests.support import (
    ASKS, FIB, FIVE, LINE, NO_FACTS, NO_INTEGERS, NO_SUMS, NO_TUPLES, ONES, PLUS, SQUARE, THREE, Case, same, some_facts,
    some_sums, value_of,
)

MOST = 10 ** 40
BASE = 10 ** 12
GREAT = 10 ** 30
# Twice another prime and 1; 7 is a leader of it.
PRIME = 999999999959
HALF = 499999999979
# For each claim one or more that are true, with a paper.
GOOD = (
    (("joined", THREE, 23, 105), ()), (("joined", (), 0, 1), ()), (("joined", ((1, GREAT), (1, GREAT - 1)), 1, GREAT * (GREAT - 1)), ()),
    (("quarrel", ((0, 2), (0, 3), (1, 4))), (0, 2)), (("quarrel", ((0, 2), (1, 2)) * 20), (38, 39)),
    (("covers", FIVE), ()), (("covers", ((0, 1),) * 12), ()),
    (("not covering", FIVE[:4]), 7), (("not covering", ()), 0), (("not covering", FIVE[:4]), -5),
    (("same", SQUARE, LINE, 2), ()), (("same", SQUARE, LINE, 1), ()), (("same", (0, BASE), (0,), BASE), ()),
    (("unlike", SQUARE, LINE, 3), 2), (("unlike", SQUARE, LINE, 3), -1), (("unlike", (1,), (0,), BASE), 0),
    (("turns", (0, 1, 2), 4), ()), (("turns", LINE, BASE), ()), (("turns", (0,), 1), ()), (("turns", LINE, 997 ** 4), ()),
    (("not turning", SQUARE, 3), (1, 2)), (("not turning", SQUARE, PRIME), (1, -1)), (("not turning", (5,), BASE), (0, 1)),
    (("zeros", ONES, 2, 9, 4), ()), (("zeros", PLUS, 3, 5, 0), ()), (("zeros", SQUARE, 997, 0, 1), ()),
    (("zeros", SQUARE, 2, 1000, 1 << 500), ()),
    (("endless", PLUS, 5, 1, 2), 7), (("endless", SQUARE, 7, 60, 0), 0), (("endless", ONES, 2, 2, 3), -1),
    (("order", 3, 7, 6), ((2, 1), (3, 1))), (("order", -1, 1, 1), ()), (("order", MOST, 9, 1), ()),
    (("order", 7, PRIME, 2 * HALF), ((2, 1), (HALF, 1))),
    (("leader", 3, 7), (((7, 1),), ((2, 1), (3, 1)))), (("leader", 5, 1), ((), ())), (("leader", -1, 4), (((2, 2),), ((2, 1),))),
    (("no root", 2, 2, 5), (5, 2)), (("no root", 3, 2, 4 * 7), (4, 1)), (("no root", 3, MOST, 5), (5, 1)),
    (("round", FIB, 5, 0, 20), ((2, 2), (5, 1))), (("round", (0, 4, 1, 1), 8, 4, 1), ()), (("round", (9, 9, 9, 9), 1, 0, 1), ()),
    (("entry", 1, 1, 10, 15), ((3, 1), (5, 1))), (("entry", 2, 1, 5, 3), ((3, 1),)), (("entry", 5, 7, 1, 1), ()),
    (("gap", (3, 5), 7), ((0, 0), (0, 2), (0, 1))), (("gap", (2, 999), 997), ((0, 0), (0, 1))),
    (("left", ASKS, 0, 11, 4), ()), (("left", (), -MOST, MOST, 2 * MOST + 1), ()), (("left", ((0, 1, False),), 5, 5, 0), ()),
)


class Checks(Case):
    def takes(self, claim, paper):
        self.assertTrue(same(self.ask(accepts, claim, paper), True), (claim, paper))

    def rejects(self, claim, paper):
        self.assertTrue(same(self.ask(accepts, claim, paper), False), (claim, paper))

    def decides(self, wanted, claim, paper):
        (self.takes if wanted else self.rejects)(claim, paper)


def others_of(value):
    """Values of other kinds that could stand in the place of the value."""
    found = [None, "1", b"1", [], {}, object(), (value,), [value], int]
    if isinstance(value, bool):
        return found + [int(value), str(value)]
    if isinstance(value, int):
        return found + ([bool(value)] if value in (0, 1) else [True, False]) + [str(value)]
    if isinstance(value, tuple):
        return found + [list(value), set(), dict(enumerate(value)), 0, True]
    return found + [list(value), value + " ", value.upper(), 5]


def changed_at_one_place(value):
    """The value with one part of it, however deep, of another kind."""
    yield from others_of(value)
    if isinstance(value, tuple):
        for at, part in enumerate(value):
            for other in changed_at_one_place(part):
                yield value[:at] + (other,) + value[at + 1:]


def apart_of(number):
    found, prime = [], 2
    while number > 1:
        often = 0
        while number % prime == 0:
            number, often = number // prime, often + 1
        if often:
            found.append((prime, often))
        prime += 1
    return tuple(found)


class Examples(Checks):
    def test_examples_of_the_document(self):
        told = [accepts(("endless", (1, 0, 1), 5, 1, 2), 7), accepts(("gap", (3, 5), 7), ((0, 0), (0, 2), (0, 1))),
                accepts(("no root", 2, 2, 5), (5, 2)), accepts(("unlike", (0, 0, 1), (0, 1), 3), 2),
                accepts(("order", 3, 7, 3), ((3, 1),)), accepts(("left", ASKS, 0, 11, 4), ())]
        self.assertEqual(told, [True, True, True, True, False, True])


class Forms(Checks):
    def test_good_ones(self):
        for claim, paper in GOOD:
            self.takes(claim, paper)
        self.assertEqual(len({claim[0] for claim, _ in GOOD}), 17)

    def test_elements_less_and_more(self):
        for claim, paper in GOOD:
            self.rejects(claim[:-1], paper)
            self.rejects(claim + (claim[-1],), paper)
            self.rejects(claim + ((),), paper)
            self.rejects(claim[1:], paper)
            self.rejects(claim[:1], paper)
            self.rejects(claim[:1] + claim[2:], paper)
            if isinstance(paper, tuple):
                for more in (0, 1, (), (0, 1), None):
                    self.rejects(claim, paper + (more,))
                if paper:
                    self.rejects(claim, paper[:-1])
                    self.rejects(claim, paper[1:])

    def test_papers_for_others(self):
        papers = {"()": ()}
        for claim, paper in GOOD:
            papers[repr(paper)] = paper
        numbers = ("not covering", "unlike", "endless")
        for claim, paper in GOOD:
            for other in papers.values():
                if isinstance(other, int) is not (claim[0] in numbers) and other != paper:
                    self.decides(claim[0] in ("not turning", "quarrel", "no root") and accepts(claim, other), claim, other)
                if paper == () and other != ():
                    self.rejects(claim, other)

    def test_claims_of_other_words(self):
        for claim, paper in GOOD:
            for word in sorted({other[0] for other, _ in GOOD}) + ["", "tells", "covers ", "Covers", "cover"]:
                if word != claim[0]:
                    alike = {"turns": "leader", "leader": "turns"}
                    if alike.get(word) != claim[0] or paper not in ((), ((), ())):
                        self.rejects((word,) + claim[1:], paper)

    def test_other_kinds_at_any_place(self):
        for claim, paper in GOOD:
            if claim == ("not covering", ()) or len(repr(claim)) > 400:
                continue
            for other in changed_at_one_place(claim):
                self.rejects(other, paper)
            for other in changed_at_one_place(paper):
                if not isinstance(other, tuple) or other != ():
                    self.rejects(claim, other)

    def test_anything_else(self):
        deep = tangle = ()
        for _ in range(19):
            deep, tangle = (deep,), [tangle, {"a": (tangle,)}] if len(repr(tangle)) < 200 else (tangle,)
        values = NO_TUPLES + NO_INTEGERS + NO_FACTS + NO_SUMS[:20] + (deep, tangle, ("covers",), ("covers", deep), (deep,), accepts)
        for value in values:
            for paper in ((), 0, deep, tangle, None, value):
                self.rejects(value, paper)
                if not isinstance(value, tuple):
                    self.rejects(("covers", value), paper)
        for claim, _ in GOOD:
            for value in (deep, tangle, (deep, deep), (tangle,) * 3, ((deep, 1),), [claim], claim, "covers"):
                self.rejects(claim, value)
                for at in range(1, len(claim)):
                    self.rejects(claim[:at] + (value,) + claim[at + 1:], value)
                    self.rejects(claim[:at] + (value,) + claim[at + 1:], ())

    def test_nothing_passed_is_changed(self):
        for claim, paper in GOOD:
            before = repr((claim, paper))
            accepts(claim, paper)
            self.assertEqual(repr((claim, paper)), before)


class Facts(Checks):
    def test_joined(self):
        for facts in some_facts(91, 4, 9, 120):
            base = lcm(*[base for _, base in facts])
            fit = [n for n in range(base) if all(n % b == r for r, b in facts)]
            for rest in {0, 1, (fit or [0])[0], base, -1}:
                for by in {base, 1, 2 * base, base - 1}:
                    self.decides(fit == [rest] and by == base, ("joined", facts, rest, by), ())
            pairs = [(i, j) for i in range(len(facts)) for j in range(i + 1, len(facts))
                     if (facts[i][0] - facts[j][0]) % gcd(facts[i][1], facts[j][1])]
            for i in range(-1, len(facts) + 1):
                for j in range(-1, len(facts) + 1):
                    self.decides((i, j) in pairs, ("quarrel", facts), (i, j))

    def test_of_any_size(self):
        facts = ((1, GREAT), (1, GREAT - 1), (1, GREAT - 3))
        base = lcm(GREAT, GREAT - 1, GREAT - 3)
        self.takes(("joined", facts, 1, base), ())
        self.rejects(("joined", facts, 1 + base, base), ())
        self.rejects(("joined", facts, 1 - base, base), ())
        self.rejects(("joined", facts, 1, -base), ())
        self.rejects(("joined", facts, 1, 0), ())
        self.rejects(("joined", ((0, 2), (1, 2)), 0, 0), ())
        self.takes(("joined", ((1, 2),) * 40, 1, 2), ())
        self.rejects(("joined", ((1, 2),) * 41, 1, 2), ())
        self.rejects(("quarrel", ((0, 2), (1, 2)) * 20 + ((0, 1),)), (0, 1))
        self.rejects(("quarrel", ((0, 2), (1, 2))), (1, 0))
        self.rejects(("quarrel", ((0, 2), (1, 2))), (-2, -1))
        self.rejects(("quarrel", ((0, 2), (1, 2))), (0, 10 ** 99))

    def test_wrong_facts(self):
        for wrong in NO_FACTS:
            for claim, paper in ((("joined", ((0, 1), wrong), 0, 1), ()), (("quarrel", ((0, 2), (1, 2), wrong)), (0, 1)),
                                 (("covers", ((0, 1), wrong)), ()), (("not covering", (wrong,)), 1)):
                self.rejects(claim, paper)

    def test_covers(self):
        for lamps in some_facts(92, 5, 6, 150):
            base = lcm(*[base for _, base in lamps])
            dark = [n for n in range(base) if all(n % b != r for r, b in lamps)]
            self.decides(not dark, ("covers", lamps), ())
            for number in (-1, 0, 1, 5, 60 * 10 ** 97):
                self.decides(number % base in dark, ("not covering", lamps), number)
        self.rejects(("covers", ((0, 1),) * 13), ())
        self.rejects(("not covering", ((0, 2),) * 13), 1)
        self.takes(("not covering", ((0, 2),) * 12), 1)
        self.rejects(("covers", ()), ())


class Sums(Checks):
    def test_same_and_unlike(self):
        chance = random.Random(93)
        sums = list(some_sums(94, 60, 4, 6))
        for _ in range(300):
            one, other, base = chance.choice(sums), chance.choice(sums), chance.randint(1, 7)
            unlike = [n for n in range(base) if (value_of(one, n) - value_of(other, n)) % base]
            self.decides(not unlike, ("same", one, other, base), ())
            for number in (0, 1, -3, 10 ** 99):
                self.decides(number % base in unlike, ("unlike", one, other, base), number)

    def test_turns(self):
        for terms in some_sums(95, 80, 4, 6):
            for base in (1, 2, 3, 4, 5, 6, 8, 9, 12):
                rests = [value_of(terms, n) % base for n in range(base)]
                self.decides(len(set(rests)) == base, ("turns", terms, base), ())
                for one, other in ((0, 1), (1, 0), (2, 5), (-1, 1), (0, base), (7, 7), (10 ** 98, 3)):
                    wanted = (one - other) % base != 0 and rests[one % base] == rests[other % base]
                    self.decides(wanted, ("not turning", terms, base), (one, other))

    def test_bases_with_great_primes(self):
        for base in (1009, 2018, PRIME):
            self.rejects(("turns", LINE, base), ())
            self.rejects(("turns", (0,), base), ())
            self.takes(("not turning", SQUARE, base), (3, -3))
            self.takes(("unlike", SQUARE, LINE, base), 2)
            self.takes(("same", LINE, (0, 1 - base), base), ())
            self.rejects(("same", SQUARE, LINE, base), ())
        self.takes(("turns", LINE, 997 * 991), ())

    def test_wrong_sums_and_bases(self):
        for wrong in NO_SUMS:
            for claim, paper in ((("same", wrong, wrong, 1), ()), (("same", (0,), wrong, 1), ()), (("same", wrong, (0,), 1), ()),
                                 (("unlike", (0,), wrong, 5), 1), (("unlike", wrong, (0,), 5), 1), (("turns", wrong, 1), ()),
                                 (("not turning", wrong, 5), (1, 4)), (("zeros", wrong, 5, 0, 1), ()),
                                 (("endless", wrong, 5, 1, 0), 0)):
                self.rejects(claim, paper)
        for wrong in NO_INTEGERS + (0, -1, -2, BASE + 1, MOST):
            for claim, paper in ((("same", LINE, LINE, wrong), ()), (("unlike", LINE, (1,), wrong), 0), (("turns", LINE, wrong), ()),
                                 (("not turning", (1,), wrong), (0, 1)), (("order", 1, wrong, 1), ()),
                                 (("leader", 1, wrong), ((), ())), (("no root", 2, 2, wrong), (5, 2)),
                                 (("round", FIB, wrong, 0, 1), ()), (("entry", 1, 1, wrong, 1), ())):
                self.rejects(claim, paper)
        for claim, paper in ((("same", LINE, LINE, BASE), ()), (("unlike", LINE, (1,), BASE), 0), (("turns", LINE, BASE), ()),
                             (("not turning", (1,), BASE), (0, 1)), (("order", 1, BASE, 1), ()), (("order", 1, 1, 1), ()),
                             (("round", (0, 0, 0, 0), BASE, 0, 1), ()), (("entry", 0, 1, BASE, 2), ((2, 1),))):
            self.takes(claim, paper)


class Zeros(Checks):
    def test_how_many(self):
        for terms in some_sums(96, 60, 4, 9):
            if terms != (0,):
                for prime, often in ((2, 0), (2, 1), (2, 6), (3, 3), (5, 2), (7, 1), (97, 1)):
                    power = prime ** often
                    many = sum(value_of(terms, n) % power == 0 for n in range(power))
                    for told in (many, many + 1, many - 1, -1, 10 ** 99):
                        self.decides(told == many, ("zeros", terms, prime, often, told), ())
                    self.rejects(("zeros", terms, prime, often, many), 0)

    def test_bounds(self):
        self.takes(("zeros", LINE, 997, 1000, 1), ())
        for wrong in NO_INTEGERS + (-1, 1001, MOST):
            self.rejects(("zeros", LINE, 5, wrong, 1), ())
            self.rejects(("zeros", LINE, wrong, 1, 1), ())
        for wrong in (0, 1, 4, 1000, 1009, -2, PRIME):
            self.rejects(("zeros", LINE, wrong, 1, 1), ())
            self.rejects(("endless", LINE, wrong, 1, 0), 0)
        self.rejects(("zeros", (0,), 5, 1, 5), ())
        self.rejects(("zeros", (0,), 5, 0, 1), ())

    def test_endless_by_both_kinds_of_papers(self):
        # 0 is an integer and manifold: only the number itself shows it.
        self.takes(("endless", SQUARE, 5, 3, 0), 0)
        for number in (125, 5 ** 60, -125):
            self.rejects(("endless", SQUARE, 5, 3, 0), number)
        self.takes(("endless", LINE, 5, 3, 0), 0)
        self.takes(("endless", LINE, 5, 3, 0), 125)
        self.takes(("endless", LINE, 5, 3, 0), -125)
        self.rejects(("endless", LINE, 5, 3, 25), 25)
        self.rejects(("endless", LINE, 5, 3, 125), 125)
        self.rejects(("endless", LINE, 5, 3, -125), -125)
        self.rejects(("endless", LINE, 5, 3, 1), 1)
        self.rejects(("endless", LINE, 5, 3, 0), 25)
        self.rejects(("endless", LINE, 5, 3, 0), 1)
        # The slope is 0 there, but the value is not.
        self.rejects(("endless", (5, 0, 1), 5, 1, 0), 0)
        self.rejects(("endless", (5 ** 12, 0, 1), 5, 1, 0), 0)
        self.rejects(("endless", (25,), 5, 1, 0), 0)

    def test_at_the_bounds_of_i_and_j(self):
        # At x = 1 the slope of x * x - 17 has 2 once: the value must have it three times.
        terms = (-17, 0, 1)
        self.takes(("endless", terms, 2, 1, 1), 1)
        self.takes(("endless", terms, 2, 3, 1), 1)
        self.rejects(("endless", terms, 2, 4, 1), 1)
        # At 3 the value is -8: i is 3, j is 1, so two places are shown.
        self.takes(("endless", terms, 2, 2, 3), 3)
        self.rejects(("endless", terms, 2, 3, 3), 3)
        self.takes(("endless", terms, 2, 3, 7), 23)
        self.rejects(("endless", (-5, 0, 1), 2, 1, 1), 1)
        self.rejects(("endless", (-13, 0, 1), 2, 1, 1), 1)
        self.rejects(("endless", (3, 0, 1), 2, 1, 1), 1)
        # i is just twice j.
        self.rejects(("endless", (-5, 0, 1), 2, 1, 1), 3)
        for often in range(1, 61):
            number = 2
            while (number * number + 1) % 5 ** often:
                number += 5 ** next(k for k in range(99) if (number * number + 1) % 5 ** (k + 1))
            rest = number % 5 ** often
            self.takes(("endless", PLUS, 5, often, rest), number)
            self.takes(("endless", PLUS, 5, often, 5 ** often - rest), -number)
            self.rejects(("endless", PLUS, 5, often, rest), -number)
        self.rejects(("endless", LINE, 2, 61, 0), 0)
        self.rejects(("endless", LINE, 2, 0, 0), 0)
        self.rejects(("endless", (0,), 2, 1, 0), 0)

    def test_endless_against_the_rule(self):
        for terms in some_sums(97, 80, 4, 6):
            if terms == (0,):
                continue
            lean = tuple(k * c for k, c in enumerate(terms))[1:] or (0,)
            for prime in (2, 3, 5):
                for number in range(-9, 40):
                    worth, slope = value_of(terms, number), value_of(lean, number)
                    for often in (1, 2, 3):
                        if worth == 0 or slope == 0:
                            wanted = worth == 0
                        else:
                            i, j = (next(k for k in range(99) if one % prime ** (k + 1)) for one in (worth, slope))
                            wanted = i - j >= often and i > 2 * j
                        claim = ("endless", terms, prime, often, number % prime ** often)
                        self.assertIs(accepts(claim, number), wanted)
                        if wanted:
                            # A zero by a greater power leaves this rest.
                            power = {2: 2 ** 11, 3: 3 ** 7, 5: 5 ** 5}[prime]
                            self.assertTrue(any(value_of(terms, n) % power == 0 for n in range(claim[4], power, prime ** often)))


class Powers(Checks):
    def test_orders(self):
        for base in range(1, 40):
            for number in range(-3, base):
                for many in range(0, 40):
                    wanted = many > 0 and (pow(number, many) - 1) % base == 0
                    wanted = wanted and all((pow(number, k) - 1) % base for k in range(1, many))
                    self.assertIs(accepts(("order", number, base, many), apart_of(many) if many else ()), wanted)

    def test_apart_papers(self):
        # The order of 2 by 2 ** 11 - 1 is 11, and that of 3 by 65537 is 65536.
        self.takes(("order", 2, 2047, 11), ((11, 1),))
        self.takes(("order", 3, 65537, 65536), ((2, 16),))
        for wrong in (((2, 15),), ((2, 17),), ((2, 8), (2, 8)), ((4, 8),), ((2, 1),) * 16, ((2, 16), (3, 0)), ((3, 0), (2, 16)),
                      ((2, 16), (1, 1)), ((1, 1), (2, 16)), ((65536, 1),), ((2, 16, 1),), ((2,),), (2, 16), ((-2, 16),), ((2, 0),),
                      ((2, -16),), ((0, 1),), ((2, 10 ** 99),), ((10 ** 99, 1),), ((2, 16), ())):
            self.rejects(("order", 3, 65537, 65536), wrong)
        # Primes out of order, and one told by two pairs.
        self.takes(("order", 3, 7, 6), ((2, 1), (3, 1)))
        for wrong in (((3, 1), (2, 1)), ((6, 1),), ((2, 1), (2, 1), (3, 1)), ((2, 1), (3, 1), (5, 0)), ((1, 1), (2, 1), (3, 1)), ()):
            self.rejects(("order", 3, 7, 6), wrong)
        # 1 has the order 1, and its paper is empty.
        self.takes(("order", 1, 7, 1), ())
        for wrong in (((1, 1),), ((2, 0),), ((7, 0),), (1,), ((),)):
            self.rejects(("order", 1, 7, 1), wrong)
        self.rejects(("order", 1, 7, 0), ())
        self.rejects(("order", 1, 7, -1), ())

    def test_primes_above_a_million(self):
        paper = ((2, 1), (HALF, 1))
        self.takes(("order", 7, PRIME, 2 * HALF), paper)
        self.takes(("order", 49, PRIME, HALF), paper[1:])
        self.rejects(("order", 49, PRIME, 2 * HALF), paper)
        self.takes(("leader", 7, PRIME), (((PRIME, 1),), paper))
        for wrong in (((2 * HALF, 1),), paper[:1], paper[1:], paper[::-1], ((2, 1), (HALF, 2)), ((1, 1),) + paper, ()):
            self.rejects(("order", 7, PRIME, 2 * HALF), wrong)
            self.rejects(("leader", 7, PRIME), (((PRIME, 1),), wrong))
        for wrong in (((PRIME, 0),), ((PRIME, 2),), ((PRIME + 2, 1),), (), paper):
            self.rejects(("leader", 7, PRIME), (wrong, paper))
        # A product of two primes about a million is no prime.
        product = 999983 * 999979
        self.rejects(("leader", 2, product), (((product, 1),), apart_of(999982 * 999978)))
        self.rejects(("no root", 3, 2, product), (product, 1))
        self.takes(("round", (2, -1, 0, 1), 10 ** 12, 0, 10 ** 12), ((2, 12), (5, 12)))

    def test_leaders(self):
        for base in range(1, 50):
            many = sum(gcd(n, base) == 1 for n in range(base))
            paper = (apart_of(base), apart_of(many))
            for number in range(-2, base):
                order = next((k for k in range(1, 50) if (pow(number, k) - 1) % base == 0), None)
                self.assertIs(accepts(("leader", number, base), paper), order == many)
        self.takes(("leader", 3, 7), (((7, 1),), ((2, 1), (3, 1))))
        for wrong in ((((7, 1),),), (((7, 1),), ((3, 1), (2, 1))), (((7, 1),), ((6, 1),)), (((2, 1), (3, 1)), ((7, 1),)),
                      (((7, 1),), ((2, 1), (3, 1)), ()), (((7, 2),), ((2, 1), (3, 1))), ((), ()), (7, 6), (((7, 1),), ())):
            self.rejects(("leader", 3, 7), wrong)
        # It has the order 3, and not 6.
        self.rejects(("leader", 2, 7), (((7, 1),), ((2, 1), (3, 1))))
        self.rejects(("leader", 2, 7), (((7, 1),), ((3, 1),)))

    def test_no_roots(self):
        for base in range(2, 28):
            parts = [(p ** k, p) for p, often in apart_of(base) for k in range(1, often + 1)]
            for number in range(base):
                for power in range(1, 7):
                    has_root = any((x ** power - number) % base == 0 for x in range(base))
                    shown = False
                    for part, _ in parts:
                        length = next(k for k in range(1, 99) if all((x ** k - 1) % part == 0 for x in range(part) if gcd(x, part) == 1))
                        for times in range(1, 13):
                            wanted = gcd(number, base) == 1 and times * power % length == 0 and (number ** times - 1) % part != 0
                            self.assertIs(accepts(("no root", number, power, base), (part, times)), wanted)
                            shown = shown or wanted
                    if shown:
                        self.assertFalse(has_root, (number, power, base))

    def test_papers_of_no_roots(self):
        self.takes(("no root", 2, 2, 5), (5, 2))
        self.takes(("no root", 2, 2, 5), (5, 10))
        self.takes(("no root", 2, 2, 15), (3, 1))
        for wrong in ((5, 1), (5, 4), (5, 0), (5, -2), (1, 2), (0, 2), (-5, 2), (25, 2), (10, 2), (3, 1), (5,), (5, 2, 1)):
            self.rejects(("no root", 2, 2, 5), wrong)
        self.rejects(("no root", 2, 2, 15), (15, 2))
        self.rejects(("no root", 2, 0, 5), (5, 4))
        self.rejects(("no root", 2, -2, 5), (5, 2))
        self.rejects(("no root", 5, 2, 15), (3, 1))
        self.rejects(("no root", 2, 2, 1), (1, 1))
        self.takes(("no root", MOST - 3, MOST, 5), (5, 1))
        for wrong in NO_INTEGERS + (MOST + 1, -MOST - 1):
            self.rejects(("no root", wrong, 2, 5), (5, 2))
            self.rejects(("no root", 2, wrong, 5), (5, 4))
            self.rejects(("order", wrong, 1, 1), ())
            self.rejects(("order", 1, 5, wrong), ())
            self.rejects(("leader", wrong, 1), ((), ()))
        for number in (MOST, -MOST):
            self.takes(("order", number, 1, 1), ())
            self.takes(("leader", number, 1), ((), ()))


class Runs(Checks):
    def test_rounds(self):
        chance = random.Random(98)
        for _ in range(150):
            run, base = tuple(chance.randint(-9, 9) for _ in range(4)), chance.randint(1, 12)
            a, b, x, y = run
            pair, seen = (x % base, y % base), {}
            while pair not in seen:
                seen[pair] = len(seen)
                pair = (pair[1], (a * pair[1] + b * pair[0]) % base)
            tail, many = seen[pair], len(seen) - seen[pair]
            for begin in {0, tail, tail - 1, tail + 1}:
                for length in {1, many, 2 * many, many - 1, many + 1, 3 * many}:
                    claim = ("round", run, base, begin, length)
                    paper = apart_of(length) if length > 0 else ()
                    self.decides((begin, length) == (tail, many), claim, paper)

    def test_papers_and_bounds_of_rounds(self):
        self.takes(("round", FIB, 5, 0, 20), ((2, 2), (5, 1)))
        for wrong in (((5, 1), (2, 2)), ((4, 1), (5, 1)), ((2, 1), (5, 1)), ((20, 1),), (), ((2, 2), (5, 1), (7, 0))):
            self.rejects(("round", FIB, 5, 0, 20), wrong)
        self.rejects(("round", FIB, 5, 0, 40), ((2, 3), (5, 1)))
        self.rejects(("round", FIB, 5, 20, 20), ((2, 2), (5, 1)))
        self.rejects(("round", FIB, 5, -20, 20), ((2, 2), (5, 1)))
        self.rejects(("round", FIB, 5, 0, 0), ())
        self.rejects(("round", FIB, 5, 0, -20), ())
        self.rejects(("round", FIB, 5, 10 ** 99, 20), ((2, 2), (5, 1)))
        for wrong in NO_TUPLES + ((), (1, 1, 0), FIB + (1,), (True, 1, 0, 1), (10 ** 9 + 1, 1, 0, 1), (1, 1, 0, -10 ** 9 - 1)):
            self.rejects(("round", wrong, 1, 0, 1), ())
        self.takes(("round", (10 ** 9, -10 ** 9, 10 ** 9, -10 ** 9), 1, 0, 1), ())
        # A base with a great prime, by which the run stands still.
        self.takes(("round", (2, -1, 7, 7), PRIME, 0, 1), ())
        self.takes(("round", (2, -1, 0, 1), PRIME, 0, PRIME), ((PRIME, 1),))

    def test_entries(self):
        for base in range(1, 20):
            for first in range(-3, 6):
                for second in range(-4, 6):
                    if gcd(second, base) != 1:
                        self.rejects(("entry", first, second, base, 1), ())
                        continue
                    values = [0, 1]
                    while len(values) < 90:
                        values.append(first * values[-1] + second * values[-2])
                    entry = next(k for k in range(1, 90) if values[k] % base == 0)
                    for told in {entry, 2 * entry, entry + 1, entry - 1, 1, 3 * entry}:
                        claim = ("entry", first, second, base, told)
                        self.assertIs(accepts(claim, apart_of(told) if told else ()), told == entry, claim)

    def test_papers_and_bounds_of_entries(self):
        self.takes(("entry", 1, 1, 10, 15), ((3, 1), (5, 1)))
        for wrong in (((5, 1), (3, 1)), ((15, 1),), ((3, 1),), (), ((1, 1), (3, 1), (5, 1)), 15):
            self.rejects(("entry", 1, 1, 10, 15), wrong)
        for wrong in NO_INTEGERS + (10 ** 9 + 1, -10 ** 9 - 1):
            self.rejects(("entry", wrong, 1, 1, 1), ())
            self.rejects(("entry", 1, wrong, 1, 1), ())
            self.rejects(("entry", 1, 1, 1, wrong), ())
        self.takes(("entry", 10 ** 9, -10 ** 9, 1, 1), ())
        self.rejects(("entry", 1, 1, 10, 0), ())
        self.rejects(("entry", 1, 1, 10, -15), ())
        self.rejects(("entry", 1, 2, 10, 1), ())
        self.takes(("entry", 2, -1, PRIME, PRIME), ((PRIME, 1),))


class Gaps(Checks):
    def test_against_all_sums(self):
        chance = random.Random(99)
        for _ in range(60):
            coins = tuple(sorted(chance.sample(range(2, 16), chance.randint(1, 4))))
            made = {0: (0,) * len(coins)}
            for number in range(1, 400):
                for at, coin in enumerate(coins):
                    if number - coin in made and number not in made:
                        often = made[number - coin]
                        made[number] = often[:at] + (often[at] + 1,) + often[at + 1:]
            gaps = [n for n in range(1, 300) if n not in made]
            least = coins[0]
            if gcd(*coins) > 1:
                continue
            paper = tuple(made[min(n for n in made if n % least == rest)] for rest in range(least))
            for told in {gaps[-1], gaps[-1] - 1, gaps[-1] + 1, 0, gaps[-1] + least}:
                self.decides(told == gaps[-1], ("gap", coins, told), paper)

    def test_papers(self):
        good = ((0, 0), (0, 2), (0, 1))
        claim = ("gap", (3, 5), 7)
        self.takes(claim, good)
        for wrong in (good[:2], good + ((0, 0),), ((0, 1), (0, 2), (0, 0)), ((1, 0), (0, 2), (0, 1)), ((0, 0), (0, 1), (0, 2)),
                      ((0, 0, 0), (0, 2), (0, 1)), ((0,), (0, 2), (0, 1)), ((0, 0), (0, 2), (0, -1)), ((0, 0), (-1, 2), (0, 1)),
                      ((0, 0), (5, -1), (0, 1)), ((0, 0), 10, 5), (0, 10, 5), ((0, 0), [0, 2], (0, 1))):
            self.rejects(claim, wrong)
        # Sums that are greater than needed: 13 in the place of 10, 8 in the place of 5.
        for wrong in (((0, 0), (1, 2), (0, 1)), ((0, 0), (0, 2), (1, 1)), ((0, 0), (1, 2), (1, 1)), ((0, 0), (0, 5), (0, 1))):
            self.rejects(claim, wrong)
            self.rejects(("gap", (3, 5), 10), wrong)
            self.rejects(("gap", (3, 5), 22), wrong)
        # Sums that do not leave the rests of their indexes, though none of them is too great.
        self.rejects(("gap", (3, 5), 2), ((0, 0), (0, 1), (0, 1)))
        self.rejects(("gap", (3, 5), 0), ((0, 0), (0, 0), (1, 0)))
        # One of them takes more of the greater coins than there are lesser ones for, but the sum is the same.
        self.takes(("gap", (2, 3, 6, 9), 1), ((0, 0, 0, 0), (0, 1, 0, 0)))
        self.rejects(("gap", (2, 3, 6, 9), 7), ((0, 0, 0, 0), (0, 0, 0, 1)))
        self.takes(("gap", (4, 6, 7, 10), 9), ((0,) * 4, (0, 1, 1, 0), (0, 1, 0, 0), (0, 0, 1, 0)))
        self.rejects(("gap", (4, 6, 7, 10), 13), ((0,) * 4, (0, 0, 1, 1), (0, 1, 0, 0), (0, 0, 1, 0)))

    def test_bounds(self):
        # 1 makes all numbers; no common divisor above 1 may be.
        for told in (-1, 0, 1):
            self.rejects(("gap", (1,), told), ((0,),))
            self.rejects(("gap", (1, 2), told), ((0, 0),))
        self.rejects(("gap", (2,), 1), ((0,), (0,)))
        self.rejects(("gap", (2, 4), 1), ((0, 0), (0, 1)))
        paper = tuple((0, rest) for rest in range(999))
        self.takes(("gap", (999, 1000), 998 * 1000 - 999), paper)
        self.rejects(("gap", (999, 1001), 998 * 1000 - 999), paper)
        eight = tuple(range(4, 12))
        paper = ((0,) * 8,) + tuple((0,) * k + (1,) + (0,) * (7 - k) for k in (1, 2, 3))
        self.takes(("gap", eight, 3), paper)
        paper = ((0,) * 9,) + tuple((0,) * k + (1,) + (0,) * (8 - k) for k in (1, 2, 3))
        self.rejects(("gap", eight + (12,), 3), paper)
        for wrong in NO_TUPLES + ((), (5, 3), (3, 3, 5), (0, 3, 5), (-3, 3, 5), (True, 3), (3, None), (3, 1001), ("3", 5)):
            self.rejects(("gap", wrong, 7), ((0, 0), (0, 2), (0, 1)))
        self.takes(("gap", (3, 4, 5), 2), ((0, 0, 0), (0, 1, 0), (0, 0, 1)))
        self.rejects(("gap", (3, 5, 4), 2), ((0, 0, 0), (0, 0, 1), (0, 1, 0)))
        self.rejects(("gap", (3, 3, 5), 7), ((0, 0, 0), (0, 0, 2), (0, 0, 1)))
        self.rejects(("gap", (3, 5, 5), 7), ((0, 0, 0), (0, 0, 2), (0, 0, 1)))
        self.rejects(("gap", (2, 1001), 999), ((0, 0), (0, 1)))
        many = 10 ** 6
        self.rejects(("gap", (3, 5), 5 * (3 * many + 1) - 3), ((0, 0), (0, 2), (0, 3 * many + 1)))
        self.rejects(("gap", (2, 3), 1), ((0, 0), (0, many + 1)))
        self.rejects(("gap", (2, 3), 3 * many - 2), ((0, 0), (0, many - 1)))


class Left(Checks):
    def test_against_all_numbers(self):
        chance = random.Random(100)
        for _ in range(200):
            asks = []
            for _ in range(chance.randint(0, 4)):
                base = chance.randint(1, 6)
                asks.append((chance.randrange(base), base, chance.random() < 0.4))
            asks, low = tuple(asks), chance.randint(-30, 30)
            high = low + chance.randint(0, 60)
            many = sum(all((n % b == r) is truth for r, b, truth in asks) for n in range(low, high + 1))
            for told in (many, many + 1, many - 1, -1, 10 ** 99):
                self.decides(told == many, ("left", asks, low, high, told), ())
            self.rejects(("left", asks, low, high, many), None)
            self.rejects(("left", asks, high + 1, high, 0), ())

    def test_bounds(self):
        self.takes(("left", ((0, GREAT, True),), -MOST, MOST, 2 * 10 ** 10 + 1), ())
        for wrong in NO_INTEGERS + (MOST + 1, -MOST - 1):
            self.rejects(("left", (), wrong, wrong, 1), ())
            self.rejects(("left", (), 0, wrong, 1), ())
        twelve = tuple((rest, 13, False) for rest in range(12))
        self.takes(("left", twelve, 0, 12, 1), ())
        self.rejects(("left", twelve + ((0, 13, False),), 0, 12, 1), ())
        self.takes(("left", ((0, 1, True),) * 40, 0, 12, 13), ())
        self.rejects(("left", ((0, 1, True),) * 41, 0, 12, 13), ())
        for wrong in NO_FACTS + ((0, 2), (0, 2, 1), (0, 2, 0), (0, 2, None), (2, 2, True), [0, 2, True]):
            self.rejects(("left", ((0, 1, True), wrong), 0, 0, 1), ())
            self.rejects(("left", (wrong,), 0, 0, 0), ())

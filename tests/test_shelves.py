"""restworld.shelves."""

import random
from math import gcd, lcm

from restworld.errors import (
    Broken, InUse, InvalidClaim, InvalidIndex, InvalidName, NotAThing, NothingToUndo, NotKnown, UnknownName,
)
from restworld.shelves import Shelf
from tests.support import (
    FIVE, NO_FACTS, NO_INTEGERS, NO_SUMS, NO_TUPLES, SQUARE, THREE, Case, same, some_facts, some_sums, value_of,
)

GREAT = 10 ** 30
QUARREL = ((1, 4), (2, 3), (2, 6), (3, 8))
MANY = ((0, 1),) * 13
NO_NAMES = NO_INTEGERS + (
    "", "A", "aB", "a1", "1", "a b", " a", "a ", "a_b", "abcdefghi", "a\n", "-", "{", "`", b"a", ("a",), ["a"], "a" * 4000,
)
NO_THINGS = NO_TUPLES + (
    (), ("facts",), ("sum",), ("facts", (), ()), ("sum", (1,), 1), ("fact", ()), ("sums", (1,)), ("Facts", ()), ("", ()),
    (None, ()), (True, (1,)), ((), ()), ("facts", None), ("facts", [(0, 1)]), ["facts", ()], ("facts", MANY * 3 + MANY[:2]),
    ((0, 1), (1, 2)), ("facts", (1,)), ("sum", ((0, 1),)), ("sum", ()), (("facts",), ()), ("sum", [1]), "facts", ((), "facts"),
)
# One claim for each word, none of which holds of any things but these.
HOLDING = (
    ("together", "a"), ("tells", "a", (8, 15)), ("covers", "c"), ("dark", "a", 1), ("same", "f", "g", 2),
    ("turns", "g", 5000), ("zero", "f", 7, 49),
)


class Lost(Exception):
    """One of the caller's."""


def shown(shelf):
    """All that can be seen of a shelf."""
    return shelf.names, tuple(shelf.thing(name) for name in shelf.names), shelf.claims, shelf.changes


def all_back(shelf):
    """What is shown each time a change is taken back, until none is left."""
    seen = [shown(shelf)]
    while shelf.changes:
        shelf.undo()
        seen.append(shown(shelf))
    return seen


def filled():
    """A shelf with things of both sorts, and a claim for each word."""
    shelf = Shelf()
    shelf.put("a", ("facts", THREE))
    shelf.put("c", ("facts", FIVE))
    shelf.put("f", ("sum", SQUARE))
    shelf.put("g", ("sum", (0, 1)))
    for claim in HOLDING:
        shelf.claim(claim)
    return shelf


class Shelves(Case):
    def leads(self, wanted, method, *given):
        """The method returns just this."""
        told = method(*given)
        self.assertTrue(same(told, wanted), told)

    def keeps(self, error, shelf, method, *given):
        """The method raises the error, by position and by name, and nothing is changed."""
        before = shown(shelf)
        self.refuses(error, method, *given)
        self.assertEqual(shown(shelf), before)

    def makes(self, shelf, claim):
        """The claim is made, by position and by name, and taken away again."""
        before = shown(shelf)
        self.leads(None, shelf.claim, claim)
        self.assertEqual(shelf.claims, before[2] + (claim,))
        shelf.undo()
        self.leads(None, lambda: shelf.claim(claim=claim))
        shelf.undo()
        self.assertEqual(shown(shelf), before)

    def breaks(self, shelf, claim, shown_so):
        """The claim does not hold, and this is shown of it."""
        self.keeps(Broken(len(shelf.claims), shown_so), shelf, shelf.claim, claim)


class Examples(Shelves):
    def test_examples_of_the_document(self):
        shelf = Shelf()
        told = [shelf.put("a", ("facts", FIVE)), shelf.put("f", ("sum", SQUARE)), shelf.put("g", ("sum", (0, 1))),
                shelf.claim(("covers", "a")), shelf.claim(("same", "f", "g", 2)), shelf.names, shelf.changes]
        self.assertEqual(told, [None, None, None, None, None, ("a", "f", "g"), 5])
        self.keeps(Broken(0, 7), shelf, shelf.put, "a", ("facts", FIVE[:4]))
        self.keeps(Broken(2, 2), shelf, shelf.claim, ("same", "f", "g", 3))


class Things(Shelves):
    def test_a_new_shelf(self):
        self.assertTrue(same(shown(Shelf()), ((), (), (), 0)))
        one = Shelf()
        Shelf().put("a", ("sum", (0,)))
        self.assertEqual(one.names, ())
        self.assertIs(one == one, True)
        self.assertIs(one == Shelf(), False)
        self.assertIs(one != Shelf(), True)
        self.assertIs(one == (), False)
        self.assertIs(bool(one), True)

    def test_names(self):
        shelf = Shelf()
        for name in ("b", "abcdefgh", "z", "az", "zzzzzzzz"):
            self.leads(None, shelf.put, name, ("facts", ()))
            self.leads(("facts", ()), shelf.thing, name)
        self.leads(None, lambda: shelf.put(thing=("sum", (5,)), name="a"))
        self.leads(("sum", (5,)), lambda: shelf.thing(name="a"))
        self.assertEqual(shelf.names, ("a", "abcdefgh", "az", "b", "z", "zzzzzzzz"))
        for wrong in NO_NAMES:
            self.keeps(InvalidName(wrong), shelf, shelf.put, wrong, ("facts", ()))
            self.keeps(InvalidName(wrong), shelf, shelf.put, wrong, None)

    def test_things_that_are_none(self):
        shelf = filled()
        for wrong in NO_THINGS:
            self.keeps(NotAThing(wrong), shelf, shelf.put, "a", wrong)
            self.keeps(NotAThing(wrong), shelf, shelf.put, "new", wrong)
        for wrong in NO_FACTS:
            self.keeps(NotAThing(("facts", ((0, 1), wrong))), shelf, shelf.put, "f", ("facts", ((0, 1), wrong)))
        for wrong in NO_SUMS:
            self.keeps(NotAThing(("sum", wrong)), shelf, shelf.put, "a", ("sum", wrong))

    def test_things_at_their_bounds(self):
        shelf = Shelf()
        for thing in (("facts", ((GREAT - 1, GREAT),) * 40), ("facts", ((0, 2), (1, 2))), ("sum", (0,)),
                      ("sum", (10 ** 12,) * 12 + (-10 ** 12,)), ("facts", ())):
            self.leads(None, shelf.put, "a", thing)
            self.leads(thing, shelf.thing, "a")

    def test_unknown_names(self):
        shelf = filled()
        for wrong in NO_NAMES + ("b", "aa", "together"):
            self.keeps(UnknownName(wrong), shelf, shelf.thing, wrong)
            self.keeps(UnknownName(wrong), shelf, shelf.drop, wrong)

    def test_in_with_any_value(self):
        shelf = filled()
        for value in NO_NAMES + NO_THINGS + ("b", "facts", None, shelf, ("a", "c")):
            self.assertIs(value in shelf, False)
            self.assertIs(value not in shelf, True)
        for name in ("a", "c", "f", "g"):
            self.assertIs(name in shelf, True)
        shelf.put("b", ("sum", (1,)))
        self.assertIs("b" in shelf, True)
        shelf.drop("b")
        self.assertIs("b" in shelf, False)

    def test_drop(self):
        shelf = Shelf()
        shelf.put("a", ("sum", (0, 1)))
        shelf.put("b", ("sum", (0, 1)))
        shelf.put("c", ("facts", ()))
        for claim in (("together", "c"), ("turns", "b", 5), ("same", "b", "a", 4), ("zero", "a", 4, 2)):
            shelf.claim(claim)
        self.keeps(InUse(2), shelf, shelf.drop, "a")
        self.keeps(InUse(1), shelf, shelf.drop, "b")
        self.keeps(InUse(0), shelf, shelf.drop, "c")
        shelf.lift(0)
        self.leads(None, shelf.drop, "c")
        self.assertEqual(shelf.names, ("a", "b"))
        self.keeps(UnknownName("c"), shelf, shelf.drop, "c")
        shelf.lift(1)
        self.keeps(InUse(1), shelf, shelf.drop, "a")
        shelf.lift(1)
        self.leads(None, lambda: shelf.drop(name="a"))
        self.keeps(InUse(0), shelf, shelf.drop, "b")
        self.assertEqual(shown(shelf), (("b",), (("sum", (0, 1)),), (("turns", "b", 5),), 12))

    def test_a_thing_of_the_other_sort(self):
        shelf = filled()
        for name, index, thing in (("a", 0, ("sum", (1,))), ("c", 2, ("sum", (1,))), ("f", 4, ("facts", ())),
                                   ("g", 4, ("facts", ((0, 2), (1, 2))))):
            self.keeps(InUse(index), shelf, shelf.put, name, thing)
        shelf.lift(4)
        self.keeps(InUse(5), shelf, shelf.put, "f", ("facts", ()))
        self.keeps(InUse(4), shelf, shelf.put, "g", ("facts", ()))
        shelf.lift(4)
        self.leads(None, shelf.put, "g", ("facts", ((0, 2), (1, 2))))
        self.leads(("facts", ((0, 2), (1, 2))), shelf.thing, "g")
        shelf.put("g", ("sum", (7,)))
        self.leads(("sum", (7,)), shelf.thing, "g")


class WordsOfClaims(Shelves):
    """What each word says, and what is shown if it does not hold."""

    def setUp(self):
        self.shelf = Shelf()
        things = {
            "a": ("facts", THREE), "c": ("facts", FIVE), "d": ("facts", FIVE[:4]), "q": ("facts", QUARREL),
            "m": ("facts", MANY), "e": ("facts", ()), "f": ("sum", SQUARE), "g": ("sum", (0, 1)), "n": ("sum", (0,)),
            "k": ("sum", (-6, 11, -6, 1)),
        }
        for name, thing in things.items():
            self.shelf.put(name, thing)

    def test_together(self):
        for name in "aem":
            self.makes(self.shelf, ("together", name))
        self.breaks(self.shelf, ("together", "q"), (0, 2))
        self.breaks(self.shelf, ("together", "c"), (0, 2))
        self.shelf.put("q", ("facts", ((0, 3), (1, 4), (5, 6), (2, 8))))
        self.breaks(self.shelf, ("together", "q"), (0, 2))
        self.shelf.put("q", ("facts", ((0, 3), (1, 4), (3, 6), (2, 8))))
        self.breaks(self.shelf, ("together", "q"), (1, 3))

    def test_tells(self):
        for fact in ((8, 15), (0, 1), (23, 105), (2, 3)):
            self.makes(self.shelf, ("tells", "a", fact))
        self.breaks(self.shelf, ("tells", "a", (7, 15)), (8, 15))
        self.breaks(self.shelf, ("tells", "a", (2, 6)), (2, 3))
        self.breaks(self.shelf, ("tells", "a", (0, 8)), (0, 1))
        self.breaks(self.shelf, ("tells", "a", (0, GREAT)), (3, 5))
        self.breaks(self.shelf, ("tells", "e", (0, 2)), (0, 1))
        self.makes(self.shelf, ("tells", "e", (0, 1)))
        for fact in ((0, 1), (1, 4), (5, 7)):
            self.breaks(self.shelf, ("tells", "q", fact), None)
        self.shelf.put("a", ("facts", ((1, GREAT), (0, GREAT - 1), (2, GREAT - 3))))
        self.makes(self.shelf, ("tells", "a", (1, GREAT)))
        self.breaks(self.shelf, ("tells", "a", (2, GREAT)), (1, GREAT))

    def test_covers(self):
        self.makes(self.shelf, ("covers", "c"))
        self.breaks(self.shelf, ("covers", "d"), 7)
        self.breaks(self.shelf, ("covers", "e"), 0)
        self.breaks(self.shelf, ("covers", "a"), 0)
        # Thirteen are too many for lamps, whatever they are.
        self.breaks(self.shelf, ("covers", "m"), None)
        self.shelf.put("m", ("facts", MANY[:12]))
        self.makes(self.shelf, ("covers", "m"))

    def test_dark(self):
        for number in (7, 19, 7 + 12 * 10 ** 28, GREAT - 9):
            self.makes(self.shelf, ("dark", "d", number))
        for number, index in ((0, 0), (3, 1), (5, 2), (11, 3), (GREAT, 0), (9, 1)):
            self.breaks(self.shelf, ("dark", "d", number), index)
        self.makes(self.shelf, ("dark", "e", 0))
        self.breaks(self.shelf, ("dark", "m", 0), None)
        self.breaks(self.shelf, ("dark", "a", 2), 0)
        self.breaks(self.shelf, ("dark", "a", 13), 1)
        self.shelf.put("m", ("facts", ((0, 3),) + ((0, 2),) * 11))
        self.makes(self.shelf, ("dark", "m", 1))
        self.breaks(self.shelf, ("dark", "m", 4), 1)

    def test_same(self):
        self.makes(self.shelf, ("same", "f", "g", 2))
        self.makes(self.shelf, ("same", "f", "g", 1))
        self.breaks(self.shelf, ("same", "f", "g", 3), 2)
        self.breaks(self.shelf, ("same", "k", "n", 5000), 0)
        self.makes(self.shelf, ("same", "k", "n", 6))
        # One name may stand for both.
        for name in "fgnk":
            self.makes(self.shelf, ("same", name, name, 5000))

    def test_turns(self):
        self.makes(self.shelf, ("turns", "g", 5000))
        self.makes(self.shelf, ("turns", "n", 1))
        self.breaks(self.shelf, ("turns", "n", 5000), (0, 1))
        self.breaks(self.shelf, ("turns", "f", 3), (1, 2))
        self.breaks(self.shelf, ("turns", "f", 4), (0, 2))
        self.breaks(self.shelf, ("turns", "f", 15), (1, 4))
        self.breaks(self.shelf, ("turns", "k", 7), (1, 2))
        self.makes(self.shelf, ("turns", "g", 997))
        for base in (1009, 2018, 4999):
            self.breaks(self.shelf, ("turns", "g", base), None)
            self.breaks(self.shelf, ("turns", "n", base), None)

    def test_zero(self):
        self.makes(self.shelf, ("zero", "f", 7, 49))
        self.makes(self.shelf, ("zero", "f", 0, 5000))
        self.makes(self.shelf, ("zero", "k", GREAT, 6))
        self.breaks(self.shelf, ("zero", "f", 7, 50), 49)
        self.breaks(self.shelf, ("zero", "k", 0, 5), 4)
        self.breaks(self.shelf, ("zero", "f", GREAT - 1, 5000), 1)
        self.makes(self.shelf, ("zero", "k", 0, 1))

    def test_first_pairs_against_all(self):
        for terms in some_sums(71, 60):
            self.shelf.put("f", ("sum", terms))
            for base in (1, 2, 3, 4, 5, 6, 8, 9, 12, 30):
                rests = [value_of(terms, number) % base for number in range(base)]
                pairs = [(i, j) for i in range(base) for j in range(i + 1, base) if rests[i] == rests[j]]
                if pairs:
                    self.breaks(self.shelf, ("turns", "f", base), min(pairs))
                else:
                    self.makes(self.shelf, ("turns", "f", base))


class MakingClaims(Shelves):
    def test_claims_that_are_none(self):
        shelf = filled()
        shelf.put("m", ("facts", ()))
        wrongs = list(NO_TUPLES) + [(), ("a",), (None,), (0, "a"), ("Covers", "a"), ("joined", "a"), ("", "a"), ("covers ", "c")]
        wrongs += [(["covers"], "c"), (("covers",), "c"), ("facts", "a"), (b"covers", "c"), ["covers", "c"]]
        for claim in HOLDING:
            wrongs += [claim[:-1], claim + ("a",), claim + (1,), list(claim), claim[:1], claim[::-1], claim[1:]]
        for wrong in NO_FACTS:
            wrongs.append(("tells", "a", wrong))
        for wrong in NO_INTEGERS + (-1, GREAT + 1, 10 ** 40):
            wrongs += [("dark", "a", wrong), ("zero", "f", wrong, 7), ("zero", "zz", wrong, 7)]
        for wrong in NO_INTEGERS + (0, -1, 5001, 10 ** 12):
            wrongs += [("same", "f", "g", wrong), ("turns", "f", wrong), ("zero", "f", 7, wrong), ("turns", None, wrong)]
        for wrong in wrongs:
            self.keeps(InvalidClaim(wrong), shelf, shelf.claim, wrong)

    def test_names_that_are_none_of_the_shelf(self):
        shelf = filled()
        for wrong in NO_NAMES + ("b", "aa", "covers"):
            for claim in (("together", wrong), ("tells", wrong, (0, 1)), ("covers", wrong), ("dark", wrong, 0),
                          ("same", wrong, "f", 5), ("same", "f", wrong, 5), ("same", wrong, ["f"], 5), ("turns", wrong, 1),
                          ("zero", wrong, 0, 1)):
                self.keeps(UnknownName(wrong), shelf, shelf.claim, claim)

    def test_names_of_the_other_sort(self):
        shelf = filled()
        for claim in (("together", "f"), ("tells", "f", (0, 1)), ("covers", "f"), ("dark", "f", 0)):
            self.keeps(UnknownName("f"), shelf, shelf.claim, claim)
        for claim in (("same", "a", "f", 5), ("same", "f", "a", 5), ("same", "a", "c", 5), ("same", "a", "zz", 5),
                      ("turns", "a", 1), ("zero", "a", 0, 1)):
            self.keeps(UnknownName("a"), shelf, shelf.claim, claim)

    def test_a_claim_may_be_made_twice(self):
        shelf = filled()
        for claim in HOLDING:
            shelf.claim(claim)
        self.assertEqual(shelf.claims, HOLDING * 2)

    def test_the_new_one_is_the_last(self):
        shelf = filled()
        self.keeps(Broken(7, 2), shelf, shelf.claim, ("same", "f", "g", 3))
        shelf.lift(3)
        self.keeps(Broken(6, 2), shelf, shelf.claim, ("same", "f", "g", 3))


class Putting(Shelves):
    def test_the_first_claim_that_breaks(self):
        cases = (
            ("a", ("facts", ((2, 3), (1, 3))), Broken(0, (0, 1))), ("a", ("facts", ((2, 3), (2, 5))), Broken(1, (2, 15))),
            ("a", ("facts", ((8, 15), (0, 7))), None), ("a", ("facts", ((8, 15), (1, 7))), Broken(3, 1)),
            ("a", ("facts", THREE + MANY), Broken(3, None)), ("a", ("facts", ()), Broken(1, (0, 1))),
            ("c", ("facts", FIVE[:4]), Broken(2, 7)), ("c", ("facts", FIVE + MANY), Broken(2, None)),
            ("c", ("facts", ()), Broken(2, 0)), ("c", ("facts", MANY[:1]), None),
            ("f", ("sum", (0, 1)), Broken(6, 7)), ("f", ("sum", (1, 0, 1)), Broken(4, 0)), ("f", ("sum", (0, 7)), None),
            ("f", ("sum", (0, 1, 1)), Broken(4, 1)), ("g", ("sum", (0, 0, 1)), Broken(5, (0, 100))),
            ("g", ("sum", (0, 3)), None), ("g", ("sum", (0,)), Broken(4, 1)),
        )
        for name, thing, error in cases:
            shelf = filled()
            if error is None:
                self.leads(None, shelf.put, name, thing)
                self.leads(thing, shelf.thing, name)
                self.assertEqual((shelf.claims, shelf.changes), (HOLDING, 12))
            else:
                self.keeps(error, shelf, shelf.put, name, thing)

    def test_in_the_order_of_the_claims(self):
        shelf = Shelf()
        shelf.put("f", ("sum", (0, 1)))
        shelf.put("g", ("sum", (0, 1)))
        for claim in (("turns", "f", 4), ("same", "g", "f", 4), ("zero", "f", 0, 4)):
            shelf.claim(claim)
        self.keeps(Broken(0, (0, 2)), shelf, shelf.put, "f", ("sum", (1, 2)))
        shelf.lift(0)
        self.keeps(Broken(0, 0), shelf, shelf.put, "f", ("sum", (1, 2)))
        self.keeps(Broken(0, 0), shelf, shelf.put, "g", ("sum", (1, 2)))
        shelf.lift(0)
        self.keeps(Broken(0, 1), shelf, shelf.put, "f", ("sum", (1, 2)))
        self.leads(None, shelf.put, "g", ("sum", (1, 2)))

    def test_order_of_errors(self):
        shelf = filled()
        self.keeps(InvalidName("A"), shelf, shelf.put, "A", ("sum",))
        self.keeps(NotAThing(("sum",)), shelf, shelf.put, "a", ("sum",))
        self.keeps(InUse(0), shelf, shelf.put, "a", ("sum", (1,)))
        self.keeps(InvalidClaim(("turns", "zz", 0)), shelf, shelf.claim, ("turns", "zz", 0))
        self.keeps(UnknownName("zz"), shelf, shelf.claim, ("same", "zz", "f", 3))
        self.keeps(UnknownName("zz"), shelf, shelf.drop, "zz")

    def test_classes_of_errors(self):
        for error in (UnknownName("a"), InUse(0), NothingToUndo()):
            self.assertIsInstance(error, NotKnown)


class Lifting(Shelves):
    def test_each_index(self):
        for index in range(7):
            shelf = filled()
            self.leads(None, shelf.lift, index)
            self.assertEqual(shelf.claims, HOLDING[:index] + HOLDING[index + 1:])
            self.assertEqual(shelf.changes, 12)
            shelf.undo()
            self.assertEqual(shelf.claims, HOLDING)
            self.leads(None, lambda: shelf.lift(index=index))

    def test_no_index(self):
        shelf = filled()
        for wrong in NO_INTEGERS + (7, -1, -7, 10 ** 40):
            self.keeps(InvalidIndex(wrong), shelf, shelf.lift, wrong)
        empty = Shelf()
        for wrong in NO_INTEGERS + (0, -1, 1):
            self.keeps(InvalidIndex(wrong), empty, empty.lift, wrong)


class Undoing(Shelves):
    def test_each_kind_of_deed(self):
        shelf = Shelf()
        self.keeps(NothingToUndo(), shelf, shelf.undo)
        deeds = (
            lambda: shelf.put("a", ("facts", THREE)), lambda: shelf.claim(("together", "a")),
            lambda: shelf.put("a", ("facts", THREE)), lambda: shelf.put("b", ("sum", (1,))),
            lambda: shelf.put("b", ("facts", ())), lambda: shelf.drop("b"), lambda: shelf.lift(0),
            lambda: shelf.put("a", ("sum", (0,))), lambda: shelf.drop("a"),
        )
        past = [shown(shelf)]
        for deed in deeds:
            self.leads(None, deed)
            past.append(shown(shelf))
        self.assertEqual(shelf.changes, 9)
        # What was put a third time left all as it was, and is taken back all the same.
        self.assertEqual(past[2][:3], past[3][:3])
        self.assertEqual(all_back(shelf), past[::-1])
        self.keeps(NothingToUndo(), shelf, shelf.undo)

    def test_all_of_a_filled_one(self):
        shelf = filled()
        seen = all_back(shelf)
        self.assertEqual([one[3] for one in seen], list(range(11, -1, -1)))
        self.assertEqual([len(one[2]) for one in seen], [7, 6, 5, 4, 3, 2, 1, 0, 0, 0, 0, 0])
        self.assertEqual(seen[-1], ((), (), (), 0))

    def test_very_many(self):
        shelf = Shelf()
        for _ in range(3000):
            shelf.put("a", ("sum", (1,)))
            shelf.drop("a")
        self.assertEqual(shelf.changes, 6000)
        for _ in range(6000):
            shelf.undo()
        self.assertEqual(shown(shelf), ((), (), (), 0))

    def test_errors_are_no_changes(self):
        shelf = filled()
        for call in (lambda: shelf.put("A", ("sum", (1,))), lambda: shelf.put("a", 1), lambda: shelf.put("a", ("sum", (1,))),
                     lambda: shelf.put("a", ("facts", ())), lambda: shelf.drop("zz"), lambda: shelf.drop("a"),
                     lambda: shelf.claim(1), lambda: shelf.claim(("turns", "f", 8)), lambda: shelf.lift(7)):
            with self.assertRaises((ValueError, LookupError, ArithmeticError)):
                call()
        self.assertEqual(all_back(shelf), all_back(filled()))


def judged(claim, things):
    """Whether a claim holds, and what is shown, by going through all numbers."""
    word, content = claim[0], things[claim[1]][1]
    if word in ("together", "tells", "covers"):
        base = lcm(*[base for _, base in content])
        pairs = [(i, j) for i in range(len(content)) for j in range(i + 1, len(content))
                 if (content[i][0] - content[j][0]) % gcd(content[i][1], content[j][1])]
        if word == "together":
            return not pairs, pairs[0] if pairs else None
        if word == "tells":
            rest, by = claim[2]
            fit = {n % by for n in range(base * by) if all(n % b == r for r, b in content)}
            if pairs:
                return False, None
            step = by // len(fit)
            return fit == {rest}, (min(fit), step)
        dark = [n for n in range(base) if all(n % b != r for r, b in content)]
        return not dark, dark[0] if dark else None
    if word == "dark":
        lit = [index for index, (r, b) in enumerate(content) if claim[2] % b == r]
        return not lit, lit[0] if lit else None
    if word == "same":
        other, base = things[claim[2]][1], claim[3]
        unlike = [n for n in range(base) if (value_of(content, n) - value_of(other, n)) % base]
        return not unlike, unlike[0] if unlike else None
    base = claim[-1]
    if word == "zero":
        rest = value_of(content, claim[2]) % base
        return rest == 0, rest
    rests = [value_of(content, n) % base for n in range(base)]
    pairs = [(i, j) for i in range(base) for j in range(i + 1, base) if rests[i] == rests[j]]
    return not pairs, pairs[0] if pairs else None


class Walks(Shelves):
    """Many deeds, each one asked of a shelf and of a list of all that it was."""

    def test_walks(self):
        self.facts = list(some_facts(72, 3, 4, 60))
        self.sums = list(some_sums(73, 60, 2, 2))
        self.chance = random.Random(74)
        self.held = 0
        for _ in range(90):
            shelf, past = Shelf(), [({}, ())]
            for _ in range(70):
                self.step(shelf, past)
                things, claims = past[-1]
                self.assertEqual(shelf.names, tuple(sorted(things)))
                self.assertEqual({name: shelf.thing(name) for name in shelf.names}, things)
                self.assertEqual((shelf.claims, shelf.changes), (claims, len(past) - 1))
            self.assertEqual([told[2] for told in all_back(shelf)], [claims for _, claims in past[::-1]])
        self.assertGreater(self.held, 100)

    def step(self, shelf, past):
        chance, (things, claims) = self.chance, past[-1]
        deed = chance.choice(("put", "put", "claim", "claim", "claim", "drop", "lift", "undo"))
        name = chance.choice(("a", "b", "f", "g"))
        if deed == "put":
            sort = chance.choice(("facts", "sum"))
            thing = (sort, chance.choice(self.facts if sort == "facts" else self.sums))
            error = self.put_error(name, thing, things, claims)
            after = ({**things, name: thing}, claims)
            self.deed(error, shelf.put, (name, thing), past, after)
        elif deed == "claim":
            claim = self.some_claim()
            error = self.claim_error(claim, things, len(claims))
            self.held += error is None
            self.deed(error, shelf.claim, (claim,), past, (things, claims + (claim,)))
        elif deed == "drop":
            naming = [at for at, claim in enumerate(claims) if name in claim[1:3]]
            error = UnknownName(name) if name not in things else InUse(naming[0]) if naming else None
            after = ({other: thing for other, thing in things.items() if other != name}, claims)
            self.deed(error, shelf.drop, (name,), past, after)
        elif deed == "lift":
            index = chance.randint(0, 3)
            error = InvalidIndex(index) if index >= len(claims) else None
            self.deed(error, shelf.lift, (index,), past, (things, claims[:index] + claims[index + 1:]))
        elif len(past) == 1:
            self.keeps(NothingToUndo(), shelf, shelf.undo)
        else:
            shelf.undo()
            past.pop()

    def deed(self, error, method, given, past, after):
        if error is None:
            self.leads(None, method, *given)
            past.append(after)
        else:
            self.refuses(error, method, *given)

    def put_error(self, name, thing, things, claims):
        naming = [at for at, claim in enumerate(claims) if name in claim[1:3]]
        if naming and things[name][0] != thing[0]:
            return InUse(naming[0])
        for at in naming:
            holds, why = judged(claims[at], {**things, name: thing})
            if not holds:
                return Broken(at, why)
        return None

    def claim_error(self, claim, things, index):
        sort = "facts" if claim[0] in ("together", "tells", "covers", "dark") else "sum"
        for name in [name for name in claim[1:3] if isinstance(name, str)]:
            if name not in things or things[name][0] != sort:
                return UnknownName(name)
        holds, why = judged(claim, things)
        return None if holds else Broken(index, why)

    def some_claim(self):
        chance = self.chance
        one, other = chance.choice("abfg"), chance.choice("abfg")
        base = chance.randint(1, 6)
        return chance.choice((
            ("together", one), ("tells", one, (chance.randrange(base), base)), ("covers", one), ("dark", one, base),
            ("same", one, other, base), ("turns", one, base), ("zero", one, chance.randint(0, 9), base),
        ))


class Trials(Shelves):
    def setUp(self):
        self.shelf = filled()

    def test_what_is_done_stays(self):
        before = shown(self.shelf)
        with self.shelf.trial() as shelf:
            self.assertIs(shelf, self.shelf)
            shelf.lift(0)
            shelf.put("new", ("sum", (0,)))
        self.assertEqual(self.shelf.claims, HOLDING[1:])
        self.assertEqual(self.shelf.names, ("a", "c", "f", "g", "new"))
        self.assertEqual(self.shelf.changes, before[3] + 2)
        self.shelf.undo()
        self.shelf.undo()
        self.assertEqual(all_back(self.shelf), all_back(filled()))

    def test_what_is_taken_back_stays_so(self):
        with self.shelf.trial() as shelf:
            shelf.undo()
            shelf.undo()
        self.assertEqual((self.shelf.claims, self.shelf.changes), (HOLDING[:5], 9))

    def test_errors_bring_all_back(self):
        with self.assertRaises(Broken) as caught:
            with self.shelf.trial() as shelf:
                shelf.lift(0)
                shelf.put("new", ("sum", (0,)))
                shelf.put("f", ("sum", (1,)))
        self.assertEqual((caught.exception.index, caught.exception.shown), (3, 0))
        self.assertEqual(shown(self.shelf), shown(filled()))
        lost = Lost("where")
        with self.assertRaises(Lost) as caught:
            with self.shelf.trial() as shelf:
                while shelf.changes:
                    shelf.undo()
                shelf.put("new", ("sum", (0,)))
                raise lost
        self.assertIs(caught.exception, lost)
        self.assertEqual(all_back(self.shelf), all_back(filled()))

    def test_other_ways_out(self):
        def leave():
            with self.shelf.trial() as shelf:
                shelf.lift(0)
                return len(shelf.claims)

        self.assertEqual(leave(), 6)
        self.assertEqual(self.shelf.claims, HOLDING[1:])
        for index in (0, 1):
            with self.shelf.trial() as shelf:
                shelf.lift(index)
                if index == 0:
                    continue
                break
        self.assertEqual(self.shelf.claims, HOLDING[2:3] + HOLDING[4:])
        with self.assertRaises(KeyboardInterrupt):
            with self.shelf.trial() as shelf:
                shelf.lift(0)
                raise KeyboardInterrupt
        self.assertEqual(self.shelf.claims, HOLDING[2:3] + HOLDING[4:])

    def test_within_one_another(self):
        with self.shelf.trial() as shelf:
            shelf.lift(0)
            with self.assertRaises(Lost):
                with shelf.trial():
                    shelf.lift(0)
                    with shelf.trial():
                        shelf.lift(0)
                    self.assertEqual(shelf.claims, HOLDING[3:])
                    raise Lost()
            self.assertEqual(shelf.claims, HOLDING[1:])
            with shelf.trial():
                shelf.lift(5)
        self.assertEqual(self.shelf.claims, HOLDING[1:6])
        self.assertEqual(self.shelf.changes, 13)
        with self.assertRaises(Lost):
            with self.shelf.trial() as shelf:
                with shelf.trial():
                    shelf.lift(0)
                raise Lost()
        self.assertEqual(self.shelf.claims, HOLDING[1:6])

    def test_used_again_also_within_itself(self):
        trial = self.shelf.trial()
        with trial as shelf:
            shelf.lift(0)
            with self.assertRaises(Lost):
                with trial as again:
                    self.assertIs(again, shelf)
                    shelf.lift(0)
                    raise Lost()
            self.assertEqual(shelf.claims, HOLDING[1:])
        with self.assertRaises(Lost):
            with trial:
                shelf.lift(0)
                with trial:
                    shelf.lift(0)
                self.assertEqual(shelf.claims, HOLDING[3:])
                raise Lost()
        self.assertEqual(self.shelf.claims, HOLDING[1:])

    def test_an_error_caught_within_is_none(self):
        with self.shelf.trial() as shelf:
            shelf.lift(0)
            try:
                shelf.drop("zz")
            except UnknownName:
                shelf.lift(0)
        self.assertEqual(self.shelf.claims, HOLDING[2:])

    def test_tried(self):
        seen = []

        def action(shelf):
            seen.append(shelf)
            shelf.lift(0)
            return len(shelf.claims)

        self.leads(6, self.shelf.tried, action)
        self.leads(5, lambda: self.shelf.tried(action=action))
        self.assertIs(seen[0], self.shelf)
        self.assertEqual((self.shelf.claims, self.shelf.changes), (HOLDING[2:], 13))
        answer = [1, [2]]
        self.assertIs(self.shelf.tried(lambda shelf: answer), answer)
        self.assertIs(self.shelf.tried(lambda shelf: shelf.undo()), None)
        self.assertEqual(self.shelf.claims, HOLDING[1:])

    def test_tried_passes_on(self):
        lost = Lost("why")

        def action(shelf):
            shelf.lift(0)
            raise lost

        with self.assertRaises(Lost) as caught:
            self.shelf.tried(action)
        self.assertIs(caught.exception, lost)
        with self.assertRaises(InvalidIndex):
            self.shelf.tried(lambda shelf: [shelf.lift(0), shelf.lift(6)])
        self.assertEqual(all_back(self.shelf), all_back(filled()))

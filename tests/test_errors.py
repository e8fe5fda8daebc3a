"""The classes of errors."""

import inspect
import unittest

from restworld import errors

GIVEN = (
    "InvalidNumber", "InvalidPrime", "InvalidFact", "InvalidSum", "InvalidText", "InvalidName", "InvalidIndex",
    "InvalidRun", "InvalidClaim", "InvalidCommand", "NotAThing", "NotACircle",
)
INDEX = ("InvalidFacts", "InvalidBases", "InvalidRests", "InvalidValues", "InvalidPairs", "InvalidAsks")
ATTRIBUTES = {
    "NotRight": {**{name: ("given",) for name in GIVEN}, **{name: ("index",) for name in INDEX}},
    "NotKnown": {"UnknownName": ("given",), "InUse": ("index",), "NothingToUndo": ()},
    "NotPossible": {
        "Quarrel": ("first", "second"), "NoNumber": (), "NotTurning": (), "NotOpen": ("given",), "TooMany": ("most",),
        "TooGreat": ("given",), "Broken": ("index", "shown"),
    },
}
BUILTIN = {"NotRight": ValueError, "NotKnown": LookupError, "NotPossible": ArithmeticError}
WHATEVER = (None, True, 0, -1, 10 ** 60, "text", b"b", (), (1, (2,)), [1], {"a": 1}, {1}, object(), ValueError("x"))


class Errors(unittest.TestCase):
    def each(self):
        for base, classes in ATTRIBUTES.items():
            for name, names in classes.items():
                yield getattr(errors, base), getattr(errors, name), names

    def test_base_classes_stand_under_those_of_python(self):
        for name, builtin in BUILTIN.items():
            self.assertEqual(getattr(errors, name).__bases__, (builtin,))

    def test_each_class_stands_under_its_base_class_alone(self):
        bases = [getattr(errors, name) for name in BUILTIN]
        ours = [one for _, one, _ in self.each()] + bases
        for base, one, _ in self.each():
            self.assertTrue(issubclass(one, base))
            self.assertEqual([other for other in ours if other is not one and issubclass(one, other)], [base])

    def test_no_class_is_missing_and_none_is_there_besides(self):
        listed = {name for classes in ATTRIBUTES.values() for name in classes} | set(BUILTIN)
        there = {name for name, value in vars(errors).items() if inspect.isclass(value)}
        self.assertEqual(listed, there)
        self.assertEqual(len(listed), 31)

    def test_attributes_by_position_and_by_name_whatever_they_are(self):
        for _, one, names in self.each():
            for at in range(len(WHATEVER)):
                values = [WHATEVER[(at + k) % len(WHATEVER)] for k in range(len(names))]
                named = dict(zip(names, values))
                made = [one(*values), one(**named), one(**dict(list(named.items())[::-1]))]
                for error in made:
                    self.assertEqual(list(vars(error)), list(names))
                    for name, value in named.items():
                        self.assertIs(getattr(error, name), value)

    def test_errors_without_their_attributes_are_not_made(self):
        for _, one, names in self.each():
            if names:
                self.assertRaises(TypeError, one)

    def test_each_is_caught_by_its_base_class(self):
        for base, one, names in self.each():
            with self.assertRaises(base):
                raise one(*names)

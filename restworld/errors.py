"""All errors of the package, each under one of three base classes."""


class NotRight(ValueError):
    """An argument is not what it has to be."""


class NotKnown(LookupError):
    """What is asked for is not there."""


class NotPossible(ArithmeticError):
    """The arguments are right, but there is no answer to give."""


class InvalidNumber(NotRight):
    """An argument that is no integer, or not one of those asked for."""

    def __init__(self, given):
        self.given = given


class InvalidPrime(NotRight):
    """An argument that is no prime up to 1000."""

    def __init__(self, given):
        self.given = given


class InvalidFact(NotRight):
    """An argument that is no fact."""

    def __init__(self, given):
        self.given = given


class InvalidSum(NotRight):
    """An argument that is no sum, or not one of those asked for."""

    def __init__(self, given):
        self.given = given


class InvalidText(NotRight):
    """An argument that is no text of the kind asked for."""

    def __init__(self, given):
        self.given = given


class InvalidName(NotRight):
    """An argument that is no name."""

    def __init__(self, given):
        self.given = given


class InvalidIndex(NotRight):
    """An argument that is no index, or not one of those asked for."""

    def __init__(self, given):
        self.given = given


class InvalidRun(NotRight):
    """An argument that is no run."""

    def __init__(self, given):
        self.given = given


class InvalidClaim(NotRight):
    """An argument that is no claim."""

    def __init__(self, given):
        self.given = given


class InvalidCommand(NotRight):
    """An argument that is no command."""

    def __init__(self, given):
        self.given = given


class NotAThing(NotRight):
    """An argument that is no thing of a shelf."""

    def __init__(self, given):
        self.given = given


class NotACircle(NotRight):
    """An argument that is no circle."""

    def __init__(self, given):
        self.given = given


class InvalidFacts(NotRight):
    """Facts or lamps of which one is wrong, or that are no tuple."""

    def __init__(self, index):
        self.index = index


class InvalidBases(NotRight):
    """Bases of which one is wrong, or that are no such tuple."""

    def __init__(self, index):
        self.index = index


class InvalidRests(NotRight):
    """Rests of which one is wrong, or that are no such tuple."""

    def __init__(self, index):
        self.index = index


class InvalidValues(NotRight):
    """Values of which one is wrong, or that are no such tuple."""

    def __init__(self, index):
        self.index = index


class InvalidPairs(NotRight):
    """Pairs of which one is wrong, or that are no such tuple."""

    def __init__(self, index):
        self.index = index


class InvalidAsks(NotRight):
    """Asks of which one is wrong, or that are no tuple."""

    def __init__(self, index):
        self.index = index


class UnknownName(NotKnown):
    """A name under which there is nothing of the sort asked for."""

    def __init__(self, given):
        self.given = given


class InUse(NotKnown):
    """What a claim still names; the index is that of the claim."""

    def __init__(self, index):
        self.index = index


class NothingToUndo(NotKnown):
    """There is no change that could be taken back."""


class Quarrel(NotPossible):
    """Two facts that no number fits both; the indexes of both."""

    def __init__(self, first, second):
        self.first = first
        self.second = second


class NoNumber(NotPossible):
    """There is no such number."""


class NotTurning(NotPossible):
    """A sum that leads two rests to one."""


class NotOpen(NotPossible):
    """A number with a common divisor above 1 with the base."""

    def __init__(self, given):
        self.given = given


class TooMany(NotPossible):
    """More than may be passed, or returned, here."""

    def __init__(self, most):
        self.most = most


class TooGreat(NotPossible):
    """A number that is too great here."""

    def __init__(self, given):
        self.given = given


class Broken(NotPossible):
    """A claim that does not hold; its index, and what shows it."""

    def __init__(self, index, shown):
        self.index = index
        self.shown = shown

"""Shelves: things with names, and claims of them that hold after each change."""

from restworld.checks import is_sum, is_within, are_facts
from restworld.claims import check_claim, judged, names_of, sort_of
from restworld.errors import Broken, InUse, InvalidIndex, InvalidName, NotAThing, NothingToUndo, UnknownName
from restworld.limits import MOST_FACTS
from restworld.names import is_name
from restworld.trials import KeepingTrial


class Stand:
    """The things and the claims of a shelf; the one before is that of which it takes the place."""

    def __init__(self, held, said, before):
        self.held = held
        self.said = said
        self.before = before
        self.depth = 0 if before is None else before.depth + 1


class Shelf:
    """Things with names, and claims of them.

    Its state is a stand, which never changes: each change takes a new one.
    """

    def __init__(self):
        self.state = Stand({}, (), None)

    @property
    def names(self):
        """The names of all things, ascending."""
        return tuple(sorted(list(self.state.held)))

    @property
    def claims(self):
        """All claims, in their order."""
        return self.state.said

    @property
    def changes(self):
        """How many changes can be taken back."""
        return self.state.depth

    def __contains__(self, x):
        return isinstance(x, str) and x in self.state.held

    def put(self, name, thing):
        """Puts a thing under a name, also in the place of what is there."""
        if not is_name(name):
            raise InvalidName(name)
        if not _is_thing(thing):
            raise NotAThing(thing)
        old = self.state.held
        if name in old and old[name][0] != thing[0]:
            self._check_unclaimed(name)
        held = {**old, name: thing}
        for index, claim in enumerate(self.state.said):
            if name in names_of(claim):
                _check_holds(index, claim, held)
        self._change(held, self.state.said)

    def thing(self, name):
        """What is there under the name."""
        self._check_known(name)
        return self.state.held[name]

    def drop(self, name):
        """Takes away what is there under the name."""
        self._check_known(name)
        self._check_unclaimed(name)
        held = {other: thing for other, thing in self.state.held.items() if other != name}
        self._change(held, self.state.said)

    def claim(self, claim):
        """Makes one claim more, behind the others."""
        check_claim(claim)
        for name in names_of(claim):
            if name not in self or self.state.held[name][0] != sort_of(claim):
                raise UnknownName(name)
        _check_holds(len(self.state.said), claim, self.state.held)
        self._change(self.state.held, self.state.said + (claim,))

    def lift(self, index):
        """Takes a claim away."""
        said = self.state.said
        if not is_within(index, 0, len(said) - 1):
            raise InvalidIndex(index)
        self._change(self.state.held, said[:index] + said[index + 1:])

    def undo(self):
        """Takes back the last change that has not been taken back."""
        if self.state.before is None:
            raise NothingToUndo()
        self.state = self.state.before

    def trial(self):
        """For a `with` statement, behind which the shelf is as it was if it ends with an exception."""
        return KeepingTrial(self)

    def tried(self, action):
        """What the action, called with the shelf within a trial, returns."""
        with self.trial() as shelf:
            returned = action(shelf)
        return returned

    def _change(self, held, said):
        self.state = Stand(held, said, self.state)

    def _check_known(self, name):
        if name not in self:
            raise UnknownName(name)

    def _check_unclaimed(self, name):
        for index, claim in enumerate(self.state.said):
            if name in names_of(claim):
                raise InUse(index)


def _check_holds(index, claim, things):
    holds, shown = judged(claim, things)
    if not holds:
        raise Broken(index, shown)


def _is_thing(given):
    if not isinstance(given, tuple) or len(given) != 2 or not isinstance(given[0], str):
        return False
    if given[0] == "facts":
        return are_facts(given[1], MOST_FACTS)
    return given[0] == "sum" and is_sum(given[1])

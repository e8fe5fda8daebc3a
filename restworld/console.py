"""A console: commands as lines of text, done with a shelf."""

from restworld.commands import read_command
from restworld.endless import count_endless
from restworld.errors import InvalidCommand, InvalidFacts, UnknownName
from restworld.facts import joined, rest_by
from restworld.functions import least_form
from restworld.lamps import dark_from, dark_share
from restworld.limits import MOST_LAMPS
from restworld.shelves import Shelf
from restworld.sums import value
from restworld.zeros import zeros

DONE = "ok"
NOTHING = "none"


def _facts(shelf, told):
    shelf.put(told[0], ("facts", tuple(told[1:])))
    return DONE


def _sum(shelf, told):
    shelf.put(told[0], ("sum", tuple(told[1:])))
    return DONE


def _drop(shelf, told):
    shelf.drop(told[0])
    return DONE


def _claim(shelf, told):
    shelf.claim(tuple(told))
    return DONE


def _lift(shelf, told):
    shelf.lift(told[0])
    return DONE


def _undo(shelf, told):
    shelf.undo()
    return DONE


def _joined(shelf, told):
    return _pair(joined(_content(shelf, told[0], "facts")))


def _rest(shelf, told):
    return _pair(rest_by(_content(shelf, told[0], "facts"), told[1]))


def _dark(shelf, told):
    dark = dark_from(_lamps(shelf, told[0]), told[1])
    return NOTHING if dark is None else str(dark)


def _share(shelf, told):
    return "/".join([str(part) for part in dark_share(_lamps(shelf, told[0]))])


def _value(shelf, told):
    return str(value(_content(shelf, told[0], "sum"), told[1]))


def _form(shelf, told):
    return _spaced([str(step) for step in least_form(_content(shelf, told[0], "sum"), told[1])])


def _zeros(shelf, told):
    return _spaced([str(zero) for zero in zeros(_content(shelf, told[0], "sum"), told[1])])


def _endless(shelf, told):
    return str(count_endless(_content(shelf, told[0], "sum"), told[1]))


def _show(shelf, told):
    sort, content = shelf.thing(told[0])
    return _spaced([_pair(part) if sort == "facts" else str(part) for part in content])


def _names(shelf, told):
    return _spaced(shelf.names)


def _claims(shelf, told):
    return str(len(shelf.claims))


ACTIONS = {
    "facts": _facts, "sum": _sum, "drop": _drop, "claim": _claim, "lift": _lift, "undo": _undo, "joined": _joined,
    "rest": _rest, "dark": _dark, "share": _share, "value": _value, "form": _form, "zeros": _zeros,
    "endless": _endless, "show": _show, "names": _names, "claims": _claims,
}


class Console:
    """Does commands with a shelf of its own."""

    def __init__(self):
        self._shelf = Shelf()

    @property
    def shelf(self):
        """The shelf with which the commands are done."""
        return self._shelf

    def run(self, command):
        """Does a command, and returns its answer."""
        told = read_command(command)
        if told is None:
            raise InvalidCommand(command)
        action = ACTIONS[told[0]]
        return action(self._shelf, told[1:])


def _content(shelf, name, sort):
    """What the thing of this sort with this name holds."""
    if name not in shelf or shelf.thing(name)[0] != sort:
        raise UnknownName(name)
    return shelf.thing(name)[1]


def _lamps(shelf, name):
    """The facts with this name, if they are not too many for lamps."""
    facts = _content(shelf, name, "facts")
    if len(facts) > MOST_LAMPS:
        raise InvalidFacts(None)
    return facts


def _pair(fact):
    return ",".join([str(part) for part in fact])


def _spaced(words):
    return " ".join(words) if words else NOTHING

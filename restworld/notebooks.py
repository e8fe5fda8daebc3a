"""Notebooks of what is known of a hidden number."""

from restworld.checks import check_low_high, is_fact, is_within
from restworld.errors import InvalidFact, InvalidIndex, NoNumber, NothingToUndo, TooMany
from restworld.leaving import Leaving
from restworld.limits import MOST_FACTS, MOST_LAMPS
from restworld.trials import Trial


class Page:
    """The asks of a notebook, and what they leave; the page before is the one that it takes the place of."""

    def __init__(self, asked, leaving, before):
        self.asked = asked
        self.how_many = leaving.many()
        self.lowest = leaving.first_number()
        self.highest = leaving.last_number()
        self.before = before
        self.depth = 0 if before is None else before.depth + 1


class Notebook:
    """What is known of a hidden number from low to high.

    Its state is a page, which never changes: each change turns to a new one.
    """

    def __init__(self, low, high):
        check_low_high(low, high)
        self._low = low
        self._high = high
        self.state = Page((), Leaving((), low, high), None)

    @property
    def low(self):
        """The least number that it could ever be."""
        return self._low

    @property
    def high(self):
        """The greatest number that it could ever be."""
        return self._high

    @property
    def asks(self):
        """All that was told, a tuple of triples."""
        return self.state.asked

    @property
    def left(self):
        """How many numbers are left."""
        return self.state.how_many

    @property
    def least(self):
        """The least number that is left."""
        return self.state.lowest

    @property
    def greatest(self):
        """The greatest number that is left."""
        return self.state.highest

    @property
    def changes(self):
        """How many changes can be taken back."""
        return self.state.depth

    def told(self, rest, base):
        """The number fits this fact."""
        self._ask(rest, base, True)

    def never(self, rest, base):
        """The number does not fit this fact."""
        self._ask(rest, base, False)

    def take(self, index):
        """Takes an ask away."""
        asks = self.state.asked
        if not is_within(index, 0, len(asks) - 1):
            raise InvalidIndex(index)
        self._turn(asks[:index] + asks[index + 1:])

    def undo(self):
        """Takes back the last change that has not been taken back."""
        if self.state.before is None:
            raise NothingToUndo()
        self.state = self.state.before

    def trial(self):
        """For a `with` statement, behind which the notebook is as it was."""
        return Trial(self)

    def tried(self, action):
        """What the action, called with the notebook within a trial, returns."""
        with self.trial() as book:
            returned = action(book)
        return returned

    def _ask(self, rest, base, truth):
        if not is_fact((rest, base)):
            raise InvalidFact((rest, base))
        asks = self.state.asked
        if len(asks) >= MOST_FACTS:
            raise TooMany(MOST_FACTS)
        if not truth and len([ask for ask in asks if not ask[2]]) >= MOST_LAMPS:
            raise TooMany(MOST_LAMPS)
        self._turn(asks + ((rest, base, truth),))

    def _turn(self, asks):
        """Turns to a page with these asks, if they leave a number."""
        page = Page(asks, Leaving(asks, self._low, self._high), self.state)
        if page.how_many == 0:
            raise NoNumber()
        self.state = page

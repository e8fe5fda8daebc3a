"""Trials of what changes: its state can come back at the end of their rows."""


class Saved:
    """A state to come back to, and what an outer use of the same trial has saved."""

    def __init__(self, state, outer):
        self.state = state
        self.outer = outer


class Trial:
    """For a `with` statement over an owner with a state; behind its rows the owner is as it was when they began."""

    def __init__(self, owner):
        self.owner = owner
        self.saved = None

    def __enter__(self):
        self.saved = Saved(self.owner.state, self.saved)
        return self.owner

    def __exit__(self, kind, value, trace):
        self.owner.state = self.saved.state
        self.saved = self.saved.outer


class KeepingTrial(Trial):
    """A trial that brings the old state back only if an exception ends its rows."""

    def __exit__(self, kind, value, trace):
        if kind is not None:
            self.owner.state = self.saved.state
        self.saved = self.saved.outer

"""Trials at what has a past: a tuple of its conditions, the present one last."""

from letparts.errors import NothingToUndo


class Begun:
    """What the past was when a trial began, and what had begun around it."""

    def __init__(self, past, outer):
        self.past = past
        self.outer = outer


class Trial:
    """For a `with` statement: if its rows end with an exception, the past is as it was when they began."""

    def __init__(self, holder):
        self.holder = holder
        self.begun = None

    def __enter__(self):
        # One trial can be entered again within itself, so what has begun around it is kept, too.
        self.begun = Begun(self.holder.past, self.begun)
        return self.holder

    def __exit__(self, kind, value, trace):
        if kind is not None:
            self.holder.past = self.begun.past
        self.begun = self.begun.outer


def undone(past):
    """A past without its last change."""
    if len(past) == 1:
        raise NothingToUndo()
    return past[:-1]

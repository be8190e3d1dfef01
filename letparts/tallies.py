"""Tallies: how many rows of 1, 2, .. a hidden cap rule lets, and what this tells of the rule."""

from letparts.checks import is_integer, need_from_to
from letparts.counts import count, counts_by_excesses
from letparts.errors import InvalidCounts, NoFit, NotATally
from letparts.giving import can_be_given, given_or_crowd, numbers_of, with_one_less
from letparts.limits import MOST_COUNTS
from letparts.rules import Caps, need_caps


class Tally:
    """How many rows of 1, 2, .. a hidden cap rule lets; it never changes."""

    def __init__(self, counts):
        if not isinstance(counts, tuple) or not counts:
            raise InvalidCounts(None)
        for at, many in enumerate(counts):
            if at == MOST_COUNTS or not is_integer(many) or many < 0:
                raise InvalidCounts(at)
        self._counts = counts

    @property
    def counts(self):
        """How many rows of 1, 2, .. are let."""
        return self._counts

    def __eq__(self, other):
        return isinstance(other, Tally) and self._counts == other._counts


def need_tally(tally):
    """NotATally for what is no tally."""
    if not isinstance(tally, Tally):
        raise NotATally(tally)


def told_excesses(tally):
    """The excesses of 1, 2, .. that a tally tells."""
    need_tally(tally)
    found = []
    for number, many in enumerate(tally.counts, start=1):
        # The count of a number has the number's excess in it once.
        found.append(many - counts_by_excesses(found + [0])[number])
    return tuple(found)


def asked_by(tally):
    """How many bans of a rule that fits have the sum 1, 2, .. ; some may be below 0."""
    return tuple([1 - excess for excess in told_excesses(tally)])


def fits(tally, rule):
    """Whether a cap rule lets so many rows of 1, 2, .. as a tally tells."""
    need_tally(tally)
    need_caps(rule)
    return all([count(rule, number) == many for number, many in enumerate(tally.counts, start=1)])


def some_rule(tally):
    """A cap rule with the tail (None,) that fits; None if none does."""
    holders, _ = given_or_crowd(asked_by(tally))
    if holders is None:
        return None
    head = [holders[size] // size - 1 if size in holders else None for size in range(1, len(tally.counts) + 1)]
    return Caps(tuple(head), (None,))


def caps_of(tally, size):
    """All caps that a size has in rules that fit and that the tally can tell, then None if it can be without such."""
    asked = asked_by(tally)
    need_from_to(size, 1, len(asked))
    if not can_be_given(asked):
        raise NoFit()
    found = []
    for number in numbers_of(size, len(asked)):
        if can_be_given(with_one_less(asked, number), size):
            found.append(number // size - 1)
    if can_be_given(asked, size):
        found.append(None)
    return tuple(found)

"""Sightings: some rows that a hidden rule lets and some that it does not let, and what they make sure."""

from letparts.checks import is_row, need_row, need_sum
from letparts.errors import InvalidBarred, InvalidLet, InvalidNumber, NoFit, NotASighting, TooMany
from letparts.limits import MOST_BAN_SUM, MOST_SEEN
from letparts.parts import is_within_times, standing_among, times_of, without_needless


def _wrong_row(rows):
    """The index of the first element that cannot be seen, or is one too many; None if there is none."""
    for at, row in enumerate(rows):
        if at == MOST_SEEN or not is_row(row) or sum(row) > MOST_BAN_SUM:
            return at
    return None


class Sighting:
    """Rows that a hidden rule lets, and rows that it does not let; it never changes."""

    def __init__(self, let, barred):
        if not isinstance(let, tuple):
            raise InvalidLet(None)
        wrong = _wrong_row(let)
        if wrong is not None:
            raise InvalidLet(wrong)
        if not isinstance(barred, tuple):
            raise InvalidBarred(None)
        wrong = _wrong_row(barred)
        if wrong is not None:
            raise InvalidBarred(wrong)
        self._let = let
        self._barred = barred

    @property
    def let(self):
        """The rows that are let."""
        return self._let

    @property
    def barred(self):
        """The rows that are not let."""
        return self._barred

    def __eq__(self, other):
        return isinstance(other, Sighting) and self._let == other._let and self._barred == other._barred

    def saw(self, row, is_let):
        """The sighting with one row more, behind the others of its kind."""
        need_row(row)
        if not isinstance(is_let, bool):
            raise InvalidNumber(is_let)
        need_sum(sum(row), MOST_BAN_SUM)
        many = len(self._let if is_let else self._barred) + 1
        if many > MOST_SEEN:
            raise TooMany(many)
        if is_let:
            return Sighting(self._let + (row,), self._barred)
        return Sighting(self._let, self._barred + (row,))


def quarrel(sighting):
    """A pair of a row that is not let and one that is let in which it stands; None if there is none."""
    if not isinstance(sighting, Sighting):
        raise NotASighting(sighting)
    for row in sighting.let:
        standing = standing_among(sighting.barred, row)
        if standing:
            return standing[0], row
    return None


def can_be(sighting):
    """Whether some rule fits a sighting."""
    return quarrel(sighting) is None


def sure(sighting, row):
    """Whether a row is surely let, surely not let, or neither, by all rules that fit."""
    fitting = can_be(sighting)
    need_row(row)
    if not fitting:
        raise NoFit()
    times = times_of(row)
    if any([is_within_times(times, times_of(seen)) for seen in sighting.let]):
        return "let"
    return "barred" if standing_among(sighting.barred, row) else "open"


def least_bans(sighting):
    """The rows that are not let, without those in which another one stands, ascending."""
    if not can_be(sighting):
        raise NoFit()
    return without_needless(sorted(set(sighting.barred)))

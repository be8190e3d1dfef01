"""Squares behind squares, own rows, and unlike odd rows that are bent to them."""

from letparts.checks import need_number, need_odd, need_row, need_unlike
from letparts.counts import count
from letparts.errors import NotOwn
from letparts.limits import MOST_LED, MOST_LISTED
from letparts.parts import turned_row
from letparts.rows import all_rows, feet, from_feet, square
from letparts.rules import Caps


def squares(row):
    """The square of a row, then that of what is left behind so many first parts, and so on."""
    need_row(row)
    found = []
    left = row
    while left:
        side = square(left)
        found.append(side)
        left = left[side:]
    return tuple(found)


def by_squares(number):
    """How many rows of the number have 0, 1, 2, .. squares, up to the most that some row of it has."""
    need_number(number, MOST_LISTED)
    # The row of parts 1 alone has the most, as many as it has parts.
    found = [0] * (number + 1)
    for row in all_rows(number):
        found[len(squares(row))] += 1
    return tuple(found)


def is_own(row):
    """Whether a row is its own turned row."""
    need_row(row)
    return turned_row(row) == row


def _bent(row):
    """The row with the halves of an unlike odd row as feet."""
    halves = tuple([(part - 1) // 2 for part in row])
    return from_feet(halves, halves)


def bent(row):
    """What an unlike odd row is bent to."""
    need_row(row)
    need_unlike(row)
    need_odd(row)
    return _bent(row)


def unbent(row):
    """The unlike odd row that is bent to an own row."""
    if not is_own(row):
        raise NotOwn(row)
    arms, _ = feet(row)
    return tuple([2 * arm + 1 for arm in arms])


def _unlike_odd_rows(number, most):
    """All rows of a number with unlike odd parts, none above a greatest one."""
    if number == 0:
        return [()]
    found = []
    for first in range(1, min(number, most) + 1, 2):
        found += [(first,) + rest for rest in _unlike_odd_rows(number - first, first - 2)]
    return found


def own_rows(number):
    """All own rows of a number, ascending."""
    need_number(number, MOST_LED)
    return tuple(sorted([_bent(row) for row in _unlike_odd_rows(number, number)]))


def count_own(number):
    """How many own rows a number has: as many as unlike odd rows."""
    return count(Caps((), (1, 0)), number)

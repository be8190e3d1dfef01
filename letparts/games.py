"""Rims taken of rows, in turn, and the worths of rows."""

from letparts.checks import need_row, need_rows, need_sum
from letparts.limits import MOST_LED
from letparts.parts import places_of, row_of_moved
from letparts.rows import hooks


def _rims(row):
    """All rows to which a rim of a row can be taken, ascending."""
    places = places_of(row, len(row))
    return sorted([row_of_moved(places, place, free)
                   for place in places for free in range(place) if free not in places])


def rims(row):
    """All rows to which a rim of a row can be taken, ascending."""
    need_row(row)
    need_sum(sum(row), MOST_LED)
    return tuple(_rims(row))


def worth(row):
    """The least integer from 0 on that is no worth of a row to which a row can be moved."""
    found = 0
    for hook in hooks(row):
        # The number of a hook has ones up to its lowest one, written to base 2, and none above.
        found = found ^ hook ^ (hook - 1)
    return found


def is_lost(row):
    """Whether who is to move loses."""
    return worth(row) == 0


def best_moves(row):
    """All rows with the worth 0 to which a rim of a row can be taken, ascending."""
    return tuple([lower for lower in rims(row) if worth(lower) == 0])


def _worth_beside(rows):
    """The worths of rows, added to base 2 without carrying."""
    found = 0
    for row in rows:
        found = found ^ worth(row)
    return found


def beside(rows):
    """The worth of rows beside one another."""
    need_rows(rows)
    return _worth_beside(rows)


def winning(rows):
    """The ascending pairs of the index of a row and a row to which a rim of it can be taken, all worth 0 then."""
    need_rows(rows)
    for row in rows:
        need_sum(sum(row), MOST_LED)
    all_worth = _worth_beside(rows)
    found = []
    for at, row in enumerate(rows):
        others_worth = all_worth ^ worth(row)
        found += [(at, lower) for lower in _rims(row) if worth(lower) == others_worth]
    return tuple(found)

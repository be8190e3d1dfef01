"""Ranks and cranks of rows, and how many rows of a number have each rest of them."""

from letparts.checks import need_from_to, need_number, need_row
from letparts.limits import MOST_LISTED
from letparts.rows import all_rows

_MOST_BY = 20


def rank(row):
    """The greatest part of a row less its length; 0 for the empty row."""
    need_row(row)
    return row[0] - len(row) if row else 0


def crank(row):
    """The greatest part; of a row with parts 1 how many parts are greater than their number, less this number."""
    need_row(row)
    ones = row.count(1)
    if ones > 0:
        return len([part for part in row if part > ones]) - ones
    return row[0] if row else 0


def _by_rests(number, by, told):
    """How many rows of the number have each rest by `by` of what is told of them."""
    need_number(number, MOST_LISTED)
    need_from_to(by, 2, _MOST_BY)
    found = [0] * by
    for row in all_rows(number):
        found[told(row) % by] += 1
    return tuple(found)


def by_rank(number, by):
    """How many rows of the number have a rank with the rest 0, 1, .. by `by`."""
    return _by_rests(number, by, rank)


def by_crank(number, by):
    """How many rows of the number have a crank with the rest 0, 1, .. by `by`."""
    return _by_rests(number, by, crank)

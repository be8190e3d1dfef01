"""Gaps of rows, rows whose parts are apart, and rows that are drawn in and out."""

from letparts.checks import is_integer, need_from_to, need_gap_and_least, need_number, need_row, need_sum
from letparts.errors import InvalidGaps, NotApart
from letparts.limits import MOST_LISTED, MOST_SUM
from letparts.rows import all_rows


def gaps(row):
    """Each part less the next one, the last part less 0."""
    need_row(row)
    behind = row[1:] + (0,)
    return tuple([part - following for part, following in zip(row, behind)])


def _need_gaps(value):
    """InvalidGaps for what is no tuple of integers from 0 on that does not end with 0."""
    if not isinstance(value, tuple):
        raise InvalidGaps(None)
    for at, step in enumerate(value):
        if not is_integer(step) or step < 0:
            raise InvalidGaps(at)
    if value and value[-1] == 0:
        raise InvalidGaps(len(value) - 1)


def from_gaps(gaps):
    """The row with these gaps."""
    _need_gaps(gaps)
    need_sum(sum([at * step for at, step in enumerate(gaps, start=1)]))
    row = []
    part = 0
    for step in gaps[::-1]:
        part += step
        row.append(part)
    return tuple(row[::-1])


def _is_apart(row, gap, least):
    """Whether the parts are apart, for right arguments."""
    if row and row[-1] < least:
        return False
    return all([row[at] - row[at + 1] >= gap for at in range(len(row) - 1)])


def is_apart(row, gap, least):
    """Whether neighbours in a row differ by at least a gap, all parts being at least a least one."""
    need_row(row)
    need_gap_and_least(gap, least)
    return _is_apart(row, gap, least)


def apart_rows(number, gap, least):
    """All rows of a number that are apart, ascending."""
    need_number(number, MOST_LISTED)
    need_gap_and_least(gap, least)
    return tuple([row for row in all_rows(number) if _is_apart(row, gap, least)])


def _lowest(length, gap, least):
    """The row of so many parts that are apart with the least sum, of whatever sum."""
    return [least + gap * behind for behind in range(length - 1, -1, -1)]


def drawn_in(row, gap, least):
    """The pair of the length of a row that is apart and of the row to which it is drawn in."""
    if not is_apart(row, gap, least):
        raise NotApart(row)
    lowest = _lowest(len(row), gap, least)
    left = [part - low for part, low in zip(row, lowest)]
    return len(row), tuple([part for part in left if part > 0])


def drawn_out(length, row, gap, least):
    """The row with this length that is drawn in to a row."""
    need_from_to(length, 0, MOST_SUM)
    need_row(row)
    need_gap_and_least(gap, least)
    if len(row) > length:
        raise NotApart(row)
    padded = row + (0,) * (length - len(row))
    found = [part + low for part, low in zip(padded, _lowest(length, gap, least))]
    need_sum(sum(found))
    return tuple(found)

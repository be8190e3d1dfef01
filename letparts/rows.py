"""Rows of parts: their texts, what they look like, how they stand in one another, and their places."""

from letparts.checks import is_from_to, is_integer, need_number, need_row, need_rows, need_sum
from letparts.errors import InvalidFeet, InvalidNumber, InvalidText
from letparts.limits import MOST_LISTED
from letparts.parts import is_within_times, joined, row_of_text, text_of_row, times_of, turned_row
from letparts.series import rows_up_to

_MOST_PLACED = 200


def as_text(row):
    """The text of a row."""
    need_row(row)
    return text_of_row(row)


def from_text(text):
    """The row with this text."""
    row = row_of_text(text)
    if row is None:
        raise InvalidText(text)
    return row


def turned(row):
    """The row whose k-th part is the number of parts that are at least k."""
    need_row(row)
    return turned_row(row)


def square(row):
    """The greatest k such that k parts are at least k."""
    need_row(row)
    return len([part for at, part in enumerate(row) if part > at])


def feet(row):
    """The pair of ARMS and LEGS of a row."""
    side = square(row)
    columns = turned_row(row)
    arms = tuple([row[at] - at - 1 for at in range(side)])
    legs = tuple([columns[at] - at - 1 for at in range(side)])
    return arms, legs


def _is_foot(value):
    """Whether a value is a tuple of integers from 0 on that fall from each to the next."""
    if not isinstance(value, tuple) or not all([is_integer(toe) and toe >= 0 for toe in value]):
        return False
    return all([value[at] > value[at + 1] for at in range(len(value) - 1)])


def from_feet(arms, legs):
    """The row with these feet."""
    if not _is_foot(arms):
        raise InvalidFeet(0)
    if not _is_foot(legs) or len(legs) != len(arms):
        raise InvalidFeet(1)
    side = len(arms)
    need_sum(side + sum(arms) + sum(legs))
    columns = [leg + at + 1 for at, leg in enumerate(legs)]
    row = [arm + at + 1 for at, arm in enumerate(arms)]
    for line in range(side, columns[0] if columns else 0):
        row.append(len([column for column in columns if column > line]))
    return tuple(row)


def hooks(row):
    """All hooks of the boxes of a row, the greatest ahead."""
    columns = turned(row)
    found = [part - at + columns[at] - line - 1 for line, part in enumerate(row) for at in range(part)]
    return tuple(sorted(found, reverse=True))


def stands_in(one, other):
    """Whether no size is a part of the first row more often than of the second one."""
    need_row(one)
    need_row(other)
    return is_within_times(times_of(one), times_of(other))


def together(one, other):
    """The row with the parts of both rows."""
    need_row(one)
    need_row(other)
    need_sum(sum(one) + sum(other))
    return tuple(sorted(one + other, reverse=True))


def join(rows):
    """The row in which each size is as often as in that row that has it most often."""
    need_rows(rows)
    found = ()
    for row in rows:
        found = joined(found, row)
    need_sum(sum(found))
    return found


def _rows_with(number, most):
    """The ascending list of all rows of a number that have no part above a greatest one."""
    if number == 0:
        return [()]
    found = []
    for first in range(1, min(number, most) + 1):
        found += [(first,) + rest for rest in _rows_with(number - first, first)]
    return found


def all_rows(number):
    """The ascending tuple of all rows of a number."""
    need_number(number, MOST_LISTED)
    return tuple(_rows_with(number, number))


def nth_row(number, index):
    """The row with this index among all rows of a number, ascending."""
    need_number(number, _MOST_PLACED)
    table = rows_up_to(number, number)
    if not is_from_to(index, 0, table[number][number] - 1):
        raise InvalidNumber(index)
    row = []
    left = number
    place = index
    while left > 0:
        part = 1
        while table[part][left] <= place:
            part += 1
        # The rows with a lesser part here stand ahead of the one that is looked for.
        place -= table[part - 1][left]
        row.append(part)
        left -= part
    return tuple(row)


def place_of(row):
    """The index of a row among all rows of its sum, ascending."""
    need_row(row)
    left = sum(row)
    need_sum(left, _MOST_PLACED)
    table = rows_up_to(left, left)
    place = 0
    for part in row:
        place += table[part - 1][left]
        left -= part
    return place

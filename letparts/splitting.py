"""Odd rows and unlike rows: fished into one another, by their runs, and split and merged by a base."""

from letparts.checks import need_from_to, need_odd, need_row, need_unlike
from letparts.parts import row_of_times, times_of

_LEAST_BASE = 2
_MOST_BASE = 9


def _at_least(halves, first, bound):
    """How many halves from the one with the index `first` on are at least a bound."""
    return len([half for half in halves[first:] if half >= bound])


def fished(row):
    """What an odd row is fished to."""
    need_row(row)
    need_odd(row)
    halves = [(part - 1) // 2 for part in row]
    found = []
    turn = 0
    while turn < len(halves) and halves[turn] >= turn:
        found.append(halves[turn] - turn + _at_least(halves, turn, turn))
        behind = halves[turn] - turn + _at_least(halves, turn + 1, turn + 1)
        if behind > 0:
            found.append(behind)
        turn += 1
    return tuple(found)


def unfished(row):
    """The odd row that is fished to an unlike row."""
    need_row(row)
    need_unlike(row)
    turns = (len(row) + 1) // 2
    parts = row + (0,) * (2 * turns - len(row))
    # With `column` the number of halves that are at least j, the (2j)-th part is the j-th half + column - 2j + 1, and
    # the part ahead of it is the j-th half + the column of j - 1, less 2j - 2. So both come out from the last j on.
    halves = []
    columns = []
    column = turns
    for j in range(turns, 0, -1):
        halves.append(parts[2 * j - 1] + 2 * j - 1 - column)
        column = parts[2 * j - 2] - halves[-1] + 2 * j - 2
        columns.append(column)
    # The halves behind these are less than `turns`, so the columns tell them: column is how many there are in all.
    halves = halves[::-1]
    for at in range(turns + 1, column + 1):
        halves.append(_at_least(columns[:-1], 0, at))
    return tuple([2 * half + 1 for half in halves])


def runs(row):
    """The runs of an unlike row, in their order."""
    need_row(row)
    need_unlike(row)
    found = []
    for part in row:
        if found and found[-1][-1] == part + 1:
            found[-1] += (part,)
        else:
            found.append((part,))
    return tuple(found)


def _need_split(row, base):
    """The errors of a row that is split or merged."""
    need_row(row)
    need_from_to(base, _LEAST_BASE, _MOST_BASE)


def split(row, base):
    """The row with like parts, as many as the base tells, put in the place of each part that the base divides."""
    _need_split(row, base)
    found = {}
    for part, times in times_of(row).items():
        size = part
        many = times
        while size % base == 0:
            size = size // base
            many = many * base
        found[size] = found.get(size, 0) + many
    return row_of_times(found)


def merged(row, base):
    """The row with one part put in the place of like parts, as many as the base tells."""
    _need_split(row, base)
    times = times_of(row)
    # What is put in is greater than what was there, so each size is merged once all that comes to it is there.
    for size in range(1, sum(row) + 1):
        many = times.get(size, 0)
        if many >= base:
            times[size] = many % base
            times[size * base] = times.get(size * base, 0) + many // base
    return row_of_times(times)

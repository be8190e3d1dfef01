"""Rows dealt like heaps: which come again, which are gardens, and the rounds of a number."""

from itertools import combinations
from math import comb, gcd, isqrt

from letparts.checks import need_number, need_row, need_sum
from letparts.limits import MOST_LED
from letparts.parts import times_of


def _dealt(row):
    """The row to which a row is dealt."""
    # What is taken together of the empty row is nothing, and left out as a nought.
    parts = [part - 1 for part in row] + [len(row)]
    return tuple(sorted([part for part in parts if part > 0], reverse=True))


def dealt(row):
    """The row to which a row is dealt."""
    need_row(row)
    return _dealt(row)


def _dealt_to_part(row, size):
    """The row that is dealt to a row in such a way that a part of this size is what was taken together."""
    at = row.index(size)
    others = row[:at] + row[at + 1:]
    return tuple([part + 1 for part in others]) + (1,) * (size - len(others))


def dealt_from(row):
    """All rows that are dealt to a row, ascending."""
    need_row(row)
    if not row:
        return ((),)
    return tuple(sorted([_dealt_to_part(row, size) for size in times_of(row) if size >= len(row) - 1]))


def is_garden(row):
    """Whether no row is dealt to a row."""
    need_row(row)
    return row != () and row[0] < len(row) - 1


def _stairs(number):
    """The greatest k with 1 + 2 + .. + k up to the number, and what is left of the number."""
    k = (isqrt(8 * number + 1) - 1) // 2
    return k, number - k * (k + 1) // 2


def _comes_again(row):
    """Whether a row, dealt often enough, comes again."""
    k, _ = _stairs(sum(row))
    # Behind k + 1 parts the stairs are below 0, so no further part can be on them.
    padded = row + (0,) * (k + 1 - len(row))
    return all([part - k + at in (0, 1) for at, part in enumerate(padded)])


def comes_again(row):
    """Whether a row, dealt often enough, comes again."""
    need_row(row)
    return _comes_again(row)


def _dealt_out(row):
    """The pair of the first row that comes again, and of how often a row is dealt until it is there."""
    times = 0
    while not _comes_again(row):
        row = _dealt(row)
        times += 1
    return row, times


def _round_from(row):
    """The rows of the round of a row that comes again, ascending."""
    found = [row]
    following = _dealt(row)
    while following != row:
        found.append(following)
        following = _dealt(following)
    return tuple(sorted(found))


def deals(row):
    """How often a row is dealt until a row that comes again is there."""
    need_row(row)
    need_sum(sum(row), MOST_LED)
    return _dealt_out(row)[1]


def round_of(row):
    """The rows of the round that is reached when a row is dealt, ascending."""
    need_row(row)
    need_sum(sum(row), MOST_LED)
    return _round_from(_dealt_out(row)[0])


def _row_of_word(k, ones):
    """The row that comes again with parts from k down to 0, those at the indexes `ones` being one more."""
    parts = [k - at + (1 if at in ones else 0) for at in range(k + 1)]
    return tuple([part for part in parts if part > 0])


def rounds(number):
    """All rounds of a number, ascending."""
    need_number(number, MOST_LED)
    k, more = _stairs(number)
    rows = [_row_of_word(k, ones) for ones in combinations(range(k + 1), int(more))]
    return tuple(sorted(set([_round_from(row) for row in rows])))


def count_rounds(number):
    """How many rounds a number has."""
    need_number(number)
    k, more = _stairs(number)
    # For each turn the words that it leaves as they are: these tell the same signs again and again. All words with
    # all turns are k + 1 for each round.
    total = 0
    for turn in range(k + 1):
        length = gcd(turn, k + 1)
        lots = (k + 1) // length
        if more % lots == 0:
            total += comb(length, more // lots)
    return total // (k + 1)

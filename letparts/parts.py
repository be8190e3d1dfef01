"""Helpers for the parts of rows; what they are passed is not looked at for errors."""

from letparts.checks import is_row

_DIGITS = "0123456789"
_EMPTY_TEXT = "-"


def text_of_row(row):
    """The text of a row."""
    return "+".join([str(part) for part in row]) if row else _EMPTY_TEXT


def _is_part_text(word):
    """Whether a word is a part as rows have it in their texts."""
    # No part has more than three digits, as no row has a sum above 600.
    return 1 <= len(word) <= 3 and word[0] != "0" and all([sign in _DIGITS for sign in word])


def row_of_text(text):
    """The row with this text; None if there is none."""
    if not isinstance(text, str):
        return None
    if text == _EMPTY_TEXT:
        return ()
    words = text.split("+")
    if not all([_is_part_text(word) for word in words]):
        return None
    row = tuple([int(word) for word in words])
    return row if is_row(row) else None


def times_of(row):
    """How many times each size is a part of a row, the greatest size ahead."""
    times = {}
    for part in row:
        times[part] = times.get(part, 0) + 1
    return times


def row_of_times(times):
    """The row in which each size is a part so many times."""
    row = []
    for size in sorted(list(times), reverse=True):
        row += [size] * times[size]
    return tuple(row)


def is_within_times(one, other):
    """Whether no size comes more often in the first row's times than in the second one's."""
    return all([times <= other.get(size, 0) for size, times in one.items()])


def joined(one, other):
    """The join of two rows."""
    times = times_of(one)
    for size, many in times_of(other).items():
        times[size] = max(many, times.get(size, 0))
    return row_of_times(times)


def turned_row(row):
    """The turned row."""
    columns = []
    length = len(row)
    for height in range(1, row[0] + 1 if row else 1):
        while row[length - 1] < height:
            length -= 1
        columns.append(length)
    return tuple(columns)


def places_of(row, many):
    """The places of the beads of a row, falling, with noughts behind it up to so many parts."""
    padded = row + (0,) * (many - len(row))
    return [part + many - at - 1 for at, part in enumerate(padded)]


def row_of_places(places):
    """The row whose beads lie at these places."""
    row = [place - below for below, place in enumerate(sorted(places))]
    return tuple([part for part in row[::-1] if part > 0])


def row_of_moved(places, old, new):
    """The row whose beads lie at these places, but for one that goes from its old place to a new one."""
    return row_of_places([new if place == old else place for place in places])

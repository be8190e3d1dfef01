"""Helpers for the parts of rows; what they are passed is not looked at for errors."""

from letparts.checks import is_row

_DIGITS = "0123456789"
_EMPTY_TEXT = "-"


def text_of_row(row):
    """The text of a row."""
    return "+".join([str(part) for part in row]) if row else _EMPTY_TEXT


def number_of_text(text):
    """The number with this text, of up to three digits, without a nought ahead of others; None if there is none."""
    if not 1 <= len(text) <= 3 or not all([sign in _DIGITS for sign in text]):
        return None
    return None if len(text) > 1 and text[0] == "0" else int(text)


def row_of_text(text):
    """The row with this text; None if there is none."""
    if not isinstance(text, str):
        return None
    if text == _EMPTY_TEXT:
        return ()
    # No part has more than three digits, as no row has a sum above 600.
    row = tuple([number_of_text(word) for word in text.split("+")])
    return row if is_row(row) else None


def times_of(row):
    """How many times each size is a part of a row, the greatest size ahead."""
    times = {}
    for part in row:
        times[part] = times.get(part, 0) + 1
    return times


def row_of_times(times):
    """The row in which each size is a part so many times."""
    row = []
    for size in sorted(list(times), reverse=True):
        row += [size] * times[size]
    return tuple(row)


def is_within_times(one, other):
    """Whether no size comes more often in the first row's times than in the second one's."""
    return all([times <= other.get(size, 0) for size, times in one.items()])


def standing_among(rows, row):
    """Those of some rows that stand in a row, in their order."""
    times = times_of(row)
    return [one for one in rows if is_within_times(times_of(one), times)]


def without_needless(rows):
    """Those of some unlike rows in which no other one of them stands, in their order."""
    return tuple([row for row in rows if standing_among(rows, row) == [row]])


def joined(one, other):
    """The join of two rows."""
    times = times_of(one)
    for size, many in times_of(other).items():
        times[size] = max(many, times.get(size, 0))
    return row_of_times(times)


def turned_row(row):
    """The turned row."""
    columns = []
    length = len(row)
    for height in range(1, row[0] + 1 if row else 1):
        while row[length - 1] < height:
            length -= 1
        columns.append(length)
    return tuple(columns)


def places_of(row, many):
    """The places of the beads of a row, falling, with noughts behind it up to so many parts."""
    padded = row + (0,) * (many - len(row))
    return [part + many - at - 1 for at, part in enumerate(padded)]


def row_of_places(places):
    """The row whose beads lie at these places."""
    row = [place - below for below, place in enumerate(sorted(places))]
    return tuple([part for part in row[::-1] if part > 0])


def row_of_moved(places, old, new):
    """The row whose beads lie at these places, but for one that goes from its old place to a new one."""
    return row_of_places([new if place == old else place for place in places])

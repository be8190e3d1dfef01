"""What arguments are looked at for: integers, rows, and what is asked of them."""

from letparts.errors import InvalidNumber, InvalidRow, InvalidRows, NotOdd, NotUnlike, TooMany
from letparts.limits import MOST_NUMBER, MOST_RODS, MOST_SUM

_MOST_ROWS = 60
_MOST_GAP = 9
_MOST_LEAST = 9


def is_integer(value):
    """Whether a value is an integer; True and False are none."""
    return isinstance(value, int) and not isinstance(value, bool)


def is_from_to(value, least, most):
    """Whether a value is an integer from the one bound to the other one."""
    return is_integer(value) and least <= value <= most


def is_row(value):
    """Whether a value is a row."""
    if not isinstance(value, tuple):
        return False
    ahead = MOST_SUM
    total = 0
    for part in value:
        if not is_from_to(part, 1, ahead):
            return False
        ahead = part
        total += part
        if total > MOST_SUM:
            return False
    return True


def need_from_to(value, least, most):
    """InvalidNumber for what is no integer from the one bound to the other one."""
    if not is_from_to(value, least, most):
        raise InvalidNumber(value)


def need_number(number, most=MOST_NUMBER):
    """InvalidNumber for what is no integer from 0 to a greatest one."""
    need_from_to(number, 0, most)


def need_rods(rods):
    """InvalidNumber for what is no number of rods."""
    need_from_to(rods, 2, MOST_RODS)


def need_gap_and_least(gap, least):
    """InvalidNumber for what is no gap between the parts of a row, then for what is no least part."""
    need_from_to(gap, 0, _MOST_GAP)
    need_from_to(least, 1, _MOST_LEAST)


def need_row(row):
    """InvalidRow for what is no row."""
    if not is_row(row):
        raise InvalidRow(row)


def need_rows(rows):
    """InvalidRows for what is no tuple of up to sixty rows."""
    if not isinstance(rows, tuple):
        raise InvalidRows(None)
    for at, row in enumerate(rows):
        if at == _MOST_ROWS or not is_row(row):
            raise InvalidRows(at)


def need_sum(total, most=MOST_SUM):
    """TooMany for a sum above a greatest one."""
    if total > most:
        raise TooMany(total)


def need_unlike(row):
    """NotUnlike for a row with like parts."""
    if len(set(row)) < len(row):
        raise NotUnlike(row)


def need_odd(row):
    """NotOdd for a row with an even part."""
    if any([part % 2 == 0 for part in row]):
        raise NotOdd(row)

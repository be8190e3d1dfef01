"""What arguments are looked at for: integers and rows."""

from letparts.errors import InvalidNumber, InvalidRow
from letparts.limits import MOST_NUMBER, MOST_SUM


def is_integer(value):
    """Whether a value is an integer; True and False are none."""
    return isinstance(value, int) and not isinstance(value, bool)


def is_from_to(value, least, most):
    """Whether a value is an integer from the one bound to the other one."""
    return is_integer(value) and least <= value <= most


def is_row(value):
    """Whether a value is a row."""
    if not isinstance(value, tuple):
        return False
    ahead = MOST_SUM
    total = 0
    for part in value:
        if not is_from_to(part, 1, ahead):
            return False
        ahead = part
        total += part
        if total > MOST_SUM:
            return False
    return True


def need_from_to(value, least, most):
    """InvalidNumber for what is no integer from the one bound to the other one."""
    if not is_from_to(value, least, most):
        raise InvalidNumber(value)


def need_number(number, most=MOST_NUMBER):
    """InvalidNumber for what is no integer from 0 to a greatest one."""
    need_from_to(number, 0, most)


def need_row(row):
    """InvalidRow for what is no row."""
    if not is_row(row):
        raise InvalidRow(row)

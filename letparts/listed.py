"""The rows of a number that a rule lets, and their places among these."""

from letparts.checks import is_from_to, need_from_to, need_number, need_sum
from letparts.counts import count, joins_of
from letparts.errors import InvalidNumber, NotLet
from letparts.limits import MOST_LED, MOST_LISTED
from letparts.parts import row_of_times, times_of
from letparts.rows import all_rows
from letparts.rules import Caps, lets, need_rule
from letparts.series import less_shifted, one_alone, rows_up_to, with_size


def let_rows(rule, number):
    """All rows of a number that a rule lets, ascending."""
    need_rule(rule)
    need_number(number, MOST_LISTED)
    return tuple([row for row in all_rows(number) if lets(rule, row)])


def _count_by_caps(rule, times, left, most):
    """As _count_behind, for a cap rule; the told parts come as their times."""
    series = one_alone(left)
    for size in range(1, min(most, left) + 1):
        series = with_size(series, size)
        cap = rule.cap(size)
        if cap is not None:
            series = less_shifted(series, size * (cap - times.get(size, 0) + 1))
    return series[left]


def _lacking(ban, times):
    """The parts of a ban that are not there yet."""
    lacking = {}
    for size, many in times_of(ban).items():
        if many > times.get(size, 0):
            lacking[size] = many - times.get(size, 0)
    return row_of_times(lacking)


def _count_by_bans(rule, times, left, most):
    """As _count_behind, for a ban rule; the told parts come as their times."""
    # Each ban lacks some parts, as none stands in the told ones; if a part above `most` is lacking, none can come to.
    lacking = [_lacking(ban, times) for ban in rule.bans]
    reached = [parts for parts in lacking if parts[0] <= most]
    table = rows_up_to(most, left)
    found = 0
    for join, sign in joins_of(reached):
        total = sum(join)
        if total <= left:
            found += sign * table[most][left - total]
    return found


def _count_behind(rule, told, left, most):
    """How many rows that a rule lets are the told parts and parts up to `most` with the sum `left`.

    The told parts are a row that the rule lets, none of them below `most`.
    """
    times = times_of(told)
    if isinstance(rule, Caps):
        return _count_by_caps(rule, times, left, most)
    return _count_by_bans(rule, times, left, most)


def count_up_to(rule, number, most):
    """How many rows of a number that a rule lets have no part above a greatest one."""
    need_rule(rule)
    need_number(number, MOST_LED)
    need_from_to(most, 0, MOST_LED)
    return _count_behind(rule, (), number, most)


def nth_let(rule, number, index):
    """The row with this index among the rows of a number that a rule lets, ascending."""
    need_rule(rule)
    need_number(number, MOST_LED)
    if not is_from_to(index, 0, count(rule, number) - 1):
        raise InvalidNumber(index)
    told = ()
    left = number
    place = index
    while left > 0:
        part = 1
        ahead = 0
        upto = _count_behind(rule, told, left, part)
        while upto <= place:
            part += 1
            ahead = upto
            upto = _count_behind(rule, told, left, part)
        # The rows with a lesser part here stand ahead of the one that is looked for.
        place -= ahead
        told += (part,)
        left -= part
    return told


def _need_let(rule, row):
    """The errors of a rule and a row of which the place is asked."""
    is_let = lets(rule, row)
    need_sum(sum(row), MOST_LED)
    if not is_let:
        raise NotLet(row)


def place_let(rule, row):
    """The index of a row among the rows of its number that a rule lets, ascending."""
    _need_let(rule, row)
    left = sum(row)
    place = 0
    for at, part in enumerate(row):
        place += _count_behind(rule, row[:at], left, part - 1)
        left -= part
    return place


def next_let(rule, row):
    """The next greater row of the same number that a rule lets; None if there is none."""
    behind = place_let(rule, row) + 1
    total = sum(row)
    return nth_let(rule, total, behind) if behind < count(rule, total) else None

"""Rows that one cap rule lets are exchanged for rows that an alike one lets."""

from letparts.alike import matched_sizes, need_alike
from letparts.checks import need_row, need_sum
from letparts.errors import NotLet
from letparts.limits import MOST_LED
from letparts.parts import row_of_times, times_of
from letparts.rules import lets, need_caps


def _need_exchange(row, rule, other):
    """The errors of a row that is to be exchanged."""
    need_row(row)
    need_caps(rule)
    need_caps(other)
    need_alike(rule, other)
    need_sum(sum(row), MOST_LED)
    if not lets(rule, row):
        raise NotLet(row)


def _trades(rule, other, most):
    """What can be exchanged, by sums up to the greatest one: SIZE, HOW MANY, OTHER SIZE, HOW MANY."""
    pairs = matched_sizes(rule, other, most)
    return [(size, rule.cap(size) + 1, other_size, other.cap(other_size) + 1) for size, other_size in pairs]


def _next_trade(trades, times):
    """The first trade whose other ban stands in the row with these times; None if there is none."""
    # Trades come by their sums, then by their sizes, as bans are to be taken.
    for trade in trades:
        if times.get(trade[2], 0) >= trade[3]:
            return trade
    return None


def _traded(row, rule, other):
    """The pair of the row for which a row is exchanged, and the sizes of the bans that are taken out."""
    _need_exchange(row, rule, other)
    trades = _trades(rule, other, sum(row))
    times = times_of(row)
    taken = []
    trade = _next_trade(trades, times)
    while trade is not None:
        size, many, other_size, other_many = trade
        times[other_size] -= other_many
        times[size] = times.get(size, 0) + many
        taken.append(other_size)
        trade = _next_trade(trades, times)
    return row_of_times(times), tuple(taken)


def exchanged(row, rule, other):
    """The row that the second rule lets for which a row that the first one lets is exchanged."""
    return _traded(row, rule, other)[0]


def exchanges(row, rule, other):
    """The sizes of the bans of the second rule that are taken out, one after the other."""
    return _traded(row, rule, other)[1]

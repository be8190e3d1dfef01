"""Ladders: the ways in which a row grows by one box after the other, and in which it is struck to its core."""

from math import factorial

from letparts.checks import need_row, need_sum
from letparts.limits import MOST_LED, MOST_LISTED
from letparts.rods import threads
from letparts.rows import hooks
from letparts.rules import lets, need_rule


def _need_ladder(rule, row):
    """The errors of a rule and a row that grows by it."""
    need_rule(rule)
    need_row(row)
    need_sum(sum(row), MOST_LISTED)


def _let_steps_down(rule, row):
    """All rows with one box less that a rule lets, ascending."""
    behind = row[1:] + (0,)
    found = []
    for at, part in enumerate(row):
        if part > behind[at]:
            less = (part - 1,) if part > 1 else ()
            found.append(row[:at] + less + row[at + 1:])
    return sorted([step for step in found if lets(rule, step)])


def steps_up(rule, row):
    """All rows with one box more that a rule lets, ascending."""
    _need_ladder(rule, row)
    found = [row + (1,)]
    for at, part in enumerate(row):
        if at == 0 or part < row[at - 1]:
            found.append(row[:at] + (part + 1,) + row[at + 1:])
    return tuple(sorted([step for step in found if lets(rule, step)]))


def steps_down(rule, row):
    """All rows with one box less that a rule lets, ascending."""
    _need_ladder(rule, row)
    return tuple(_let_steps_down(rule, row))


def ladders(rule, row):
    """How many ladders a row has by a rule; 0 if the rule does not let it."""
    _need_ladder(rule, row)
    if not lets(rule, row):
        return 0
    # How many ways lead down from the row to each one with so many boxes.
    ways = {row: 1}
    for _ in range(sum(row)):
        below = {}
        for step, many in ways.items():
            for lower in _let_steps_down(rule, step):
                below[lower] = below.get(lower, 0) + many
        ways = below
    return ways.get((), 0)


def strike_ladders(row, rods):
    """In how many ways a row can be struck to its core, strike by strike."""
    told = threads(row, rods)
    need_sum(sum(row), MOST_LED)
    # The ladders of a thread are as many as its boxes' orders, by its hooks; shuffled, as many as all boxes' orders.
    ways = factorial(sum([sum(thread) for thread in told]))
    for thread in told:
        for hook in hooks(thread):
            ways = ways // hook
    return ways

"""Walks: rows that one ban rule lets are led, one to one, to rows that another one lets."""

from itertools import permutations

from letparts.checks import is_from_to, need_row, need_sum
from letparts.counts import joins_of
from letparts.errors import InvalidPairing, NotEven, NotLet
from letparts.limits import MOST_WALKED
from letparts.parts import is_within_times, row_of_times, times_of
from letparts.rules import lets, need_bans


def _need_pairing(rule, other, pairing):
    """The errors of two rules and a pairing of their bans."""
    need_bans(rule)
    need_bans(other)
    many = len(rule.bans)
    if not isinstance(pairing, tuple) or len(other.bans) != many:
        raise InvalidPairing(None)
    for at, index in enumerate(pairing):
        if not is_from_to(index, 0, many - 1) or index in pairing[:at]:
            raise InvalidPairing(at)
    if len(pairing) < many:
        raise InvalidPairing(len(pairing))


def _joins(bans):
    """The join of each choice of bans, at the index that the choice has in `joins_of`."""
    return [join for join, _ in joins_of(bans)]


def _join_sums(bans):
    """The sum of the join of each choice of bans."""
    return [sum(join) for join in _joins(bans)]


def _first_uneven(sums, other_sums, pairing):
    """The first choice whose joins have unlike sums by a pairing; None if it is even."""
    paired = [0]
    for index in pairing:
        paired = paired + [choice | (1 << index) for choice in paired]
    for choice, other_choice in enumerate(paired):
        if sums[choice] != other_sums[other_choice]:
            return choice
    return None


def _uneven_choice(rule, other, pairing):
    """The first choice, as ascending indexes, that shows that a pairing is not even; None if it is."""
    choice = _first_uneven(_join_sums(rule.bans), _join_sums(other.bans), pairing)
    if choice is None:
        return None
    return tuple([index for index in range(len(pairing)) if choice & (1 << index)])


def pairings(rule, other):
    """All even pairings of the bans of two rules, ascending."""
    need_bans(rule)
    need_bans(other)
    many = len(rule.bans)
    if len(other.bans) != many:
        return ()
    sums = _join_sums(rule.bans)
    other_sums = _join_sums(other.bans)
    # They come ascending, as what they are made of does.
    return tuple([pairing for pairing in permutations(range(many)) if _first_uneven(sums, other_sums, pairing) is None])


def is_even(rule, other, pairing):
    """Whether for each choice of bans of the first rule their join has the same sum as that of the paired ones."""
    _need_pairing(rule, other, pairing)
    return _uneven_choice(rule, other, pairing) is None


def _need_walk(row, rule, other, pairing):
    """The errors of a walk, but for that of a row that is not let."""
    need_row(row)
    _need_pairing(rule, other, pairing)
    choice = _uneven_choice(rule, other, pairing)
    if choice is not None:
        raise NotEven(choice)
    need_sum(sum(row), MOST_WALKED)


def _need_let(row, rule):
    """NotLet for a row that the rule on whose side a walk begins does not let."""
    if not lets(rule, row):
        raise NotLet(row)


def _least_standing(bans, row):
    """The least index of the bans that stand in a row; None if none does."""
    times = times_of(row)
    for index, ban in enumerate(bans):
        if is_within_times(times_of(ban), times):
            return index
    return None


def _crossed(row, join, far_join):
    """The row with the join of one side taken out and that of the other side put in."""
    times = times_of(row)
    for size in join:
        times[size] -= 1
    for size in far_join:
        times[size] = times.get(size, 0) + 1
    return row_of_times(times)


def _walk(row, bans, far_bans):
    """The pair of the row at which a walk ends, and how many turnings it has.

    It begins on the side of `bans`; both sides' bans stand in the order of the first rule's bans.
    """
    joins = _joins(bans)
    far_joins = _joins(far_bans)
    choice = 0
    turnings = 0
    index = _least_standing(far_bans, row)
    while index is not None:
        choice = choice ^ (1 << index)
        row = _crossed(row, far_joins[choice], joins[choice])
        # Some ban stands here: no walk can end on the side on which it begins.
        choice = choice ^ (1 << _least_standing(bans, row))
        row = _crossed(row, joins[choice], far_joins[choice])
        turnings += 2
        index = _least_standing(far_bans, row)
    return row, turnings


def _paired_bans(other, pairing):
    """The bans of the second rule in the order of the first rule's bans with which they are paired."""
    return [other.bans[index] for index in pairing]


def _walk_there(row, rule, other, pairing):
    """As _walk, from a row that the first rule lets."""
    _need_walk(row, rule, other, pairing)
    _need_let(row, rule)
    return _walk(row, rule.bans, _paired_bans(other, pairing))


def walked(row, rule, other, pairing):
    """The row at which the walk from a row that the first rule lets ends."""
    return _walk_there(row, rule, other, pairing)[0]


def walked_back(row, rule, other, pairing):
    """The row that the first rule lets from which the walk ends at this one, which the second rule lets."""
    _need_walk(row, rule, other, pairing)
    _need_let(row, other)
    return _walk(row, _paired_bans(other, pairing), rule.bans)[0]


def walk_length(row, rule, other, pairing):
    """How many turnings the walk from a row that the first rule lets has."""
    return _walk_there(row, rule, other, pairing)[1]

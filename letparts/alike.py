"""Alike rules, which let equally many rows of every number, and their matched bans."""

from math import lcm

from letparts.checks import need_number
from letparts.counts import ban_sizes, sieve
from letparts.errors import NotAlike
from letparts.limits import MOST_NUMBER
from letparts.rules import Caps, need_caps, need_rule
from letparts.series import less_shifted, one_alone

# 7 * 32: behind this number the bans of the longest head, and of its tail's first turn, are over.
_LAST_UNSTEADY = 224
# 7 * (1 + .. + 24): the sums of all bans of a head together are at most this; no sieve reaches as far.
_MOST_DEGREE = 2100


def _steps(rule):
    """By how much the sums of the bans of the tail's sizes grow from turn to turn."""
    return [len(rule.tail) * (cap + 1) for cap in rule.tail if cap is not None]


def _first_unlike_caps(rule, other):
    """The first number that unequally many bans of two cap rules have as their sum; None if none is."""
    turn = 1
    for step in _steps(rule) + _steps(other):
        turn = lcm(turn, step)
    most = _LAST_UNSTEADY + turn
    sizes = ban_sizes(rule, most)
    other_sizes = ban_sizes(other, most)
    for number in range(1, most + 1):
        if len(sizes[number]) != len(other_sizes[number]):
            return number
    return None


def _ban_product(rule, most):
    """The product of 1 - q ** m over the sums m of all bans of a cap rule, up to a greatest number."""
    series = one_alone(most)
    for total, sizes in enumerate(ban_sizes(rule, most)):
        for _ in sizes:
            series = less_shifted(series, total)
    return series


def _first_unlike_kinds(caps, bans):
    """The first number of which a cap rule and a ban rule let unequally many; None if there is none."""
    times = dict(sieve(bans))
    most = MOST_NUMBER
    while True:
        for number, many in enumerate(_ban_product(caps, most)):
            if many != times.get(number, 0):
                return number
        # A rule with bans in its tail is alike to no ban rule, so what parts them is found further on.
        if most >= _MOST_DEGREE and not _steps(caps):
            return None
        most *= 2


def _first_unlike_bans(rule, other):
    """The first number at which the sieves of two ban rules are unlike; None if there is none."""
    unlike = sorted(set(sieve(rule)) ^ set(sieve(other)))
    return unlike[0][0] if unlike else None


def first_unlike(rule, other):
    """The first number of which two rules let unequally many; None if they are alike."""
    need_rule(rule)
    need_rule(other)
    if isinstance(rule, Caps):
        if isinstance(other, Caps):
            return _first_unlike_caps(rule, other)
        return _first_unlike_kinds(rule, other)
    if isinstance(other, Caps):
        return _first_unlike_kinds(other, rule)
    return _first_unlike_bans(rule, other)


def alike(rule, other):
    """Whether two rules let equally many rows of every number."""
    return first_unlike(rule, other) is None


def need_alike(rule, other):
    """NotAlike with the first number of which two rules let unequally many, if there is one."""
    number = first_unlike(rule, other)
    if number is not None:
        raise NotAlike(number)


def matched_sizes(rule, other, most):
    """The pairs of the sizes of matched bans of two alike cap rules, by sums up to the greatest one."""
    pairs = []
    for sizes, other_sizes in zip(ban_sizes(rule, most), ban_sizes(other, most)):
        pairs += list(zip(sizes, other_sizes))
    return pairs


def matched(rule, other, number):
    """The pairs of the sizes of all matched bans with sums up to the number."""
    need_caps(rule)
    need_caps(other)
    need_number(number)
    need_alike(rule, other)
    return tuple(matched_sizes(rule, other, number))

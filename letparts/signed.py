"""Signed counts: rows with an even number of parts less those with an odd number."""

from letparts.checks import need_number
from letparts.counts import joins_of
from letparts.rules import Caps, need_rule
from letparts.series import less_shifted, one_alone, with_shifted, with_signed_size


def _signed_by_caps(rule, number):
    """The signed counts of 0, 1, .. up to the number by a cap rule."""
    series = one_alone(number)
    for size in range(1, number + 1):
        series = with_signed_size(series, size)
        cap = rule.cap(size)
        if cap is None:
            continue
        if cap % 2 == 1:
            series = less_shifted(series, size * (cap + 1))
        else:
            series = with_shifted(series, size * (cap + 1))
    return series


def _signed_of_all(number):
    """The signed counts of all rows of 0, 1, .. up to the number."""
    series = one_alone(number)
    for size in range(1, number + 1):
        series = with_signed_size(series, size)
    return series


def _signed_by_bans(rule, number):
    """The signed counts of 0, 1, .. up to the number by a ban rule."""
    every = _signed_of_all(number)
    found = [0] * (number + 1)
    for join, sign in joins_of(rule.bans):
        total = sum(join)
        join_sign = sign if len(join) % 2 == 0 else -sign
        for n in range(total, number + 1):
            found[n] += join_sign * every[n - total]
    return found


def signed_counts(rule, number):
    """The signed counts of 0, 1, .. up to the number."""
    need_rule(rule)
    need_number(number)
    if isinstance(rule, Caps):
        return tuple(_signed_by_caps(rule, number))
    return tuple(_signed_by_bans(rule, number))


def signed_count(rule, number):
    """The signed count of a number."""
    return signed_counts(rule, number)[number]

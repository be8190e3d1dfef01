"""How many rows of a number a rule lets."""

from letparts.checks import need_number
from letparts.parts import joined
from letparts.rules import Caps, need_bans, need_caps, need_rule


def _counts_of_all(number):
    """How many rows 0, 1, .. up to the number have in all, by the fives' numbers."""
    found = [1]
    for left in range(1, number + 1):
        total = 0
        k = 1
        while k * (3 * k - 1) // 2 <= left:
            less = k * (3 * k - 1) // 2
            more = less + k
            pair = found[left - less] + (found[left - more] if more <= left else 0)
            total += pair if k % 2 == 1 else -pair
            k += 1
        found.append(total)
    return found


def count_all(number):
    """How many rows a number has in all."""
    need_number(number)
    return _counts_of_all(number)[number]


def joins_of(bans):
    """For each choice of bans the pair of its join, and 1 or -1 as it has an even or odd number.

    The choice at an index has those bans whose indexes are places of ones in it, written to base 2.
    """
    joins = [((), 1)]
    for ban in bans:
        joins = joins + [(joined(join, ban), -sign) for join, sign in joins]
    return joins


def sieve(rule):
    """The ascending pairs of the numbers at which the sieve of a ban rule is not 0, and the sieve there."""
    need_bans(rule)
    times = {}
    for join, sign in joins_of(rule.bans):
        total = sum(join)
        times[total] = times.get(total, 0) + sign
    return tuple([(total, times[total]) for total in sorted(list(times)) if times[total] != 0])


def ban_sizes(rule, most):
    """A list: at each number up to the greatest one the ascending sizes whose bans have this sum."""
    sizes = [[] for _ in range(most + 1)]
    for size in range(1, most + 1):
        cap = rule.cap(size)
        if cap is not None and size * (cap + 1) <= most:
            sizes[size * (cap + 1)].append(size)
    return sizes


def ban_sums(rule, number):
    """How many bans of a cap rule have the sum 1, 2, .. up to the number."""
    need_caps(rule)
    need_number(number)
    return tuple([len(sizes) for sizes in ban_sizes(rule, number)[1:]])


def excesses(rule, number):
    """For 1, 2, .. up to the number 1 less the number of bans of a cap rule with this sum."""
    return tuple([1 - many for many in ban_sums(rule, number)])


def _sums_by_excesses(shares):
    """The divisor sums of 1, 2, .. for these excesses of 1, 2, .. ."""
    sums = [0] * len(shares)
    for m, excess in enumerate(shares, start=1):
        for k in range(m, len(shares) + 1, m):
            sums[k - 1] += m * excess
    return sums


def divisor_sums(rule, number):
    """For 1, 2, .. up to the number the sum of m times the excess of m over all m that divide it."""
    return tuple(_sums_by_excesses(excesses(rule, number)))


def counts_by_excesses(shares):
    """The counts of 0, 1, .. for these excesses of 1, 2, .. ."""
    sums = _sums_by_excesses(shares)
    found = [1]
    for n in range(1, len(shares) + 1):
        found.append(sum([sums[k - 1] * found[n - k] for k in range(1, n + 1)]) // n)
    return found


def _counts_by_bans(rule, number):
    """How many rows of 0, 1, .. up to the number a ban rule lets."""
    every = _counts_of_all(number)
    found = [0] * (number + 1)
    for total, times in sieve(rule):
        for n in range(total, number + 1):
            found[n] += times * every[n - total]
    return found


def counts(rule, number):
    """How many rows of 0, 1, .. up to the number a rule lets."""
    need_rule(rule)
    need_number(number)
    if isinstance(rule, Caps):
        return tuple(counts_by_excesses(excesses(rule, number)))
    return tuple(_counts_by_bans(rule, number))


def count(rule, number):
    """How many rows of a number a rule lets."""
    return counts(rule, number)[number]

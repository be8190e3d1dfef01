"""Rows counted in a box, by their length, by their square, apart from one another, and of few sizes."""

from math import comb, isqrt, lcm

from letparts.checks import is_from_to, need_from_to, need_gap_and_least, need_number
from letparts.errors import InvalidSizes, TooMany
from letparts.series import less_shifted, one_alone, rows_up_to, with_size

_MOST_SIDE = 20
_MOST_SIZES = 6
_MOST_SIZE = 30
_MOST_MULTIPLE = 2520
_MOST_GREAT = 10 ** 30


def box_counts(length, greatest):
    """How many rows of 0, 1, .. have at most so many parts, none greater than the greatest one."""
    need_from_to(length, 0, _MOST_SIDE)
    need_from_to(greatest, 0, _MOST_SIDE)
    series = one_alone(length * greatest)
    # The factors 1 - q ** (length + s) take out the rows that do not lie in the box.
    for size in range(1, greatest + 1):
        series = less_shifted(with_size(series, size), length + size)
    return tuple(series)


def length_counts(number):
    """How many rows of a number have 0, 1, .. parts, up to so many as the number tells."""
    need_number(number)
    table = rows_up_to(number, number)
    # Turned, and without the greatest part, a row with so many parts has none greater than that.
    return tuple([table[length][number - length] for length in range(number + 1)])


def square_counts(number):
    """How many rows of a number have the square 0, 1, .. up to the greatest one that there is."""
    need_number(number)
    side = isqrt(number)
    table = rows_up_to(side, number)
    found = []
    for k in range(side + 1):
        left = number - k * k
        found.append(sum([table[k][beside] * table[k][left - beside] for beside in range(left + 1)]))
    return tuple(found)


def apart_counts(number, gap, least):
    """How many rows of 0, 1, .. up to the number are apart by this gap from this least part on."""
    need_number(number)
    need_gap_and_least(gap, least)
    found = [0] * (number + 1)
    length = 0
    lowest = 0
    series = one_alone(number)
    while lowest <= number:
        # Above the lowest row with so many parts lies any row of at most so many parts.
        for n in range(lowest, number + 1):
            found[n] += series[n - lowest]
        lowest += least + gap * length
        length += 1
        series = with_size(series, length)
    return tuple(found)


def _need_sizes(sizes):
    """InvalidSizes for what is no ascending tuple of one to six sizes up to thirty."""
    if not isinstance(sizes, tuple) or not sizes:
        raise InvalidSizes(None)
    ahead = 0
    for at, size in enumerate(sizes):
        if at == _MOST_SIZES or not is_from_to(size, ahead + 1, _MOST_SIZE):
            raise InvalidSizes(at)
        ahead = size


def great_count(sizes, number):
    """How many rows of a number have no other sizes than these."""
    _need_sizes(sizes)
    need_number(number, _MOST_GREAT)
    multiple = 1
    for size in sizes:
        multiple = lcm(multiple, size)
    if multiple > _MOST_MULTIPLE:
        raise TooMany(multiple)
    many = len(sizes)
    # 1 / (1 - q ** size) is a sum of finitely many powers of q over 1 - q ** multiple.
    series = one_alone(many * multiple)
    for size in sizes:
        series = less_shifted(with_size(series, size), multiple)
    last = min(number, many * multiple)
    found = 0
    for at in range(number % multiple, last + 1, multiple):
        found += series[at] * comb((number - at) // multiple + many - 1, many - 1)
    return found

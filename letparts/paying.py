"""Rows that pay numbers, and rows that weigh them on two pans."""

from letparts.checks import is_from_to, need_number, need_row, need_sum
from letparts.errors import InvalidFactors, NotBalanced, NotPerfect
from letparts.parts import row_of_times, times_of
from letparts.series import less_shifted, one_alone, with_size

_MOST_FACTOR = 1000
# How many places beside the one aside a part has: to pay, and on two pans.
_TO_PAY = 1
_ON_PANS = 2


def _ways(row, places):
    """How many ways there are to 0, 1, .. , each size coming from 0 up to `places` times as often as in the row."""
    series = one_alone(places * sum(row))
    for size, many in times_of(row).items():
        series = less_shifted(with_size(series, size), size * (places * many + 1))
    return series


def ways_to_pay(row):
    """How many ways there are to pay 0, 1, .. up to the sum of a row."""
    need_row(row)
    return tuple(_ways(row, _TO_PAY))


def ways_to_weigh(row):
    """How many weighings there are of 0, 1, .. up to the sum of a row."""
    need_row(row)
    # From all parts on the one pan to all on the other one each size comes from 0 to twice as often as in the row; the
    # sum itself is reached where the pans are even.
    return tuple(_ways(row, _ON_PANS)[sum(row):])


def _is_without_gap(row, places):
    """Whether each part is at most 1 more than `places` times the sum of the parts behind it."""
    behind = 0
    for part in row[::-1]:
        if part > 1 + places * behind:
            return False
        behind += part
    return True


def is_complete(row):
    """Whether a row pays each number from 0 to its sum."""
    need_row(row)
    return _is_without_gap(row, _TO_PAY)


def is_set(row):
    """Whether a row is a set of weights."""
    need_row(row)
    return _is_without_gap(row, _ON_PANS)


def _factors(row, places):
    """The integers from 2 on of which a row is made so that all ways are the only ones; None if there are none."""
    found = []
    worth = 1
    for size, many in list(times_of(row).items())[::-1]:
        if size != worth:
            return None
        found.append(places * many + 1)
        worth = worth * found[-1]
    return tuple(found)


def _row_of_factors(factors, places):
    """The row that is made of these integers."""
    times = {}
    worth = 1
    for factor in factors:
        times[worth] = (factor - 1) // places
        worth = worth * factor
    return row_of_times(times)


def _all_factors(product):
    """All tuples of integers from 2 on with this product."""
    if product == 1:
        return [()]
    found = []
    for first in range(2, product + 1):
        if product % first == 0:
            found += [(first,) + rest for rest in _all_factors(product // first)]
    return found


def _only_rows(number, places):
    """All rows of a number that are made of factors, ascending."""
    return tuple(sorted([_row_of_factors(factors, places) for factors in _all_factors(places * number + 1)]))


def is_perfect(row):
    """Whether a row pays each number from 0 to its sum in just one way."""
    need_row(row)
    return _factors(row, _TO_PAY) is not None


def is_balanced(row):
    """Whether a row weighs each number from 0 to its sum by just one weighing."""
    need_row(row)
    return _factors(row, _ON_PANS) is not None


def perfect_rows(number):
    """All perfect rows of a number, ascending."""
    need_number(number)
    return _only_rows(number, _TO_PAY)


def balanced_rows(number):
    """All balanced rows of a number, ascending."""
    need_number(number)
    return _only_rows(number, _ON_PANS)


def factors(row):
    """The integers of which a perfect row is made."""
    need_row(row)
    found = _factors(row, _TO_PAY)
    if found is None:
        raise NotPerfect(row)
    return found


def weights_factors(row):
    """The integers of which a balanced row is made."""
    need_row(row)
    found = _factors(row, _ON_PANS)
    if found is None:
        raise NotBalanced(row)
    return found


def _need_factors(value):
    """InvalidFactors for what is no tuple of integers from 2 to 1000."""
    if not isinstance(value, tuple):
        raise InvalidFactors(None)
    for at, factor in enumerate(value):
        if not is_from_to(factor, 2, _MOST_FACTOR):
            raise InvalidFactors(at)


def from_factors(factors):
    """The perfect row that is made of these integers."""
    _need_factors(factors)
    product = 1
    for factor in factors:
        product = product * factor
    need_sum(product - 1)
    return _row_of_factors(factors, _TO_PAY)


def fewest_parts(number):
    """The least number of parts of a complete row of a number."""
    need_number(number)
    return number.bit_length()


def fewest_weights(number):
    """The least number of parts of a set of weights of a number."""
    need_number(number)
    many = 0
    reach = 1
    while reach < 2 * number + 1:
        reach = 3 * reach
        many += 1
    return many


def count_complete(number):
    """How many complete rows a number has."""
    need_number(number)
    found = one_alone(number)
    for size in range(1, number + 1):
        # A part of this size comes only to such rows of lesser parts as have a sum of at least one less.
        for total in range(2 * size - 1, number + 1):
            found[total] += found[total - size]
    return found[number]

"""Sizes given to the numbers that ask for them, so many as bans are to have each number as their sum.

What is asked is a tuple: how many sizes the numbers 1, 2, .. ask for.
"""

from letparts.limits import MOST_CAP

# A ban of a size has at most so many parts.
_MOST_TIMES = MOST_CAP + 1


def numbers_of(size, most):
    """The numbers up to a greatest one to which a size can be given, ascending."""
    return [size * times for times in range(1, _MOST_TIMES + 1) if size * times <= most]


def sizes_of(number):
    """The sizes that can be given to a number, ascending."""
    return [size for size in range(1, number + 1) if number % size == 0 and number // size <= _MOST_TIMES]


def _give(number, holders, tried, kept_back):
    """Whether one more size can be given to a number, others getting other sizes in turn; it is then done.

    `holders` tells the number to which each size is given, `tried` gets all numbers that ask for another size.
    """
    tried.append(number)
    for size in sizes_of(number):
        if size != kept_back:
            holder = holders.get(size)
            if holder is None or holder not in tried and _give(holder, holders, tried, kept_back):
                holders[size] = number
                return True
    return False


def given_or_crowd(asked, kept_back=None):
    """The number to which each size is given, and (); or None, and numbers that cannot get together what they ask.

    These are ascending, just one if it asks for less than none. A size that is kept back is not given.
    """
    for number, many in enumerate(asked, start=1):
        if many < 0:
            return None, (number,)
    holders = {}
    for number, many in enumerate(asked, start=1):
        for _ in range(many):
            tried = []
            if not _give(number, holders, tried, kept_back):
                return None, tuple(sorted(tried))
    return holders, ()


def can_be_given(asked, kept_back=None):
    """Whether all numbers can get as many sizes as they ask for."""
    return given_or_crowd(asked, kept_back)[0] is not None


def with_one_less(asked, number):
    """What is asked if a number asks for one size less."""
    return asked[:number - 1] + (asked[number - 1] - 1,) + asked[number:]

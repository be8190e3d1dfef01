"""Unlike rows turned over, and the fives' numbers, of each of which one unlike row stays."""

from letparts.checks import need_number, need_row, need_unlike


def _slope(row):
    """The greatest number such that so many first parts fall by 1 from each to the next."""
    length = 1
    while length < len(row) and row[length] == row[length - 1] - 1:
        length += 1
    return length


def turned_over(row):
    """What an unlike row is turned over to; itself if it stays."""
    need_row(row)
    need_unlike(row)
    if not row:
        return row
    last = row[-1]
    slope = _slope(row)
    if last <= slope:
        if len(row) == last:
            return row
        return tuple([part + 1 for part in row[:last]]) + row[last:-1]
    if len(row) == slope and last == slope + 1:
        return row
    return tuple([part - 1 for part in row[:slope]]) + row[slope:] + (slope,)


def stays(row):
    """Whether an unlike row is turned over to itself."""
    return turned_over(row) == row


def fives(number):
    """The fives' numbers up to the number, ascending."""
    need_number(number)
    found = [0]
    k = 1
    while k * (3 * k - 1) // 2 <= number:
        found += [k * (3 * k - 1) // 2, k * (3 * k + 1) // 2]
        k += 1
    return tuple([five for five in found if five <= number])


def even_less_odd(number):
    """How many unlike rows of the number have an even number of parts, less how many have an odd number."""
    found = fives(number)
    if found[-1] != number:
        return 0
    # Behind 0 there are two fives' numbers for each k.
    k = len(found) // 2
    return 1 if k % 2 == 0 else -1

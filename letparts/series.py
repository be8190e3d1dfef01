"""Tuples of counts for 0, 1, .. as sums of powers of a letter q."""


def one_alone(most):
    """The counts of the empty row alone, for the numbers up to the greatest one."""
    return [1] + [0] * most


def with_size(series, size):
    """The product with 1 / (1 - q ** size): this size comes in, as often as one likes."""
    product = list(series)
    for at in range(size, len(product)):
        product[at] += product[at - size]
    return product


def with_signed_size(series, size):
    """The product with 1 / (1 + q ** size): each part of this size changes the sign."""
    product = list(series)
    for at in range(size, len(product)):
        product[at] -= product[at - size]
    return product


def less_shifted(series, shift):
    """The product with 1 - q ** shift."""
    product = list(series)
    for at in range(shift, len(product)):
        product[at] -= series[at - shift]
    return product


def with_shifted(series, shift):
    """The product with 1 + q ** shift."""
    product = list(series)
    for at in range(shift, len(product)):
        product[at] += series[at - shift]
    return product


def rows_up_to(most, number):
    """A table: at [M][N] how many rows of N have no part above M, for M and N up to these."""
    table = [one_alone(number)]
    for size in range(1, most + 1):
        table.append(with_size(table[size - 1], size))
    return table

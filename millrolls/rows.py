"""Rows of integers of the same length."""


def dot(one, other):
    """Return the sum of the products of what stands at the same places."""
    return sum([first * second for first, second in zip(one, other)])


def added(one, other):
    """Return the tuple of the sums of two rows."""
    return tuple([first + second for first, second in zip(one, other)])


def less(one, other):
    """Return the tuple of the first row less the second one."""
    return tuple([first - second for first, second in zip(one, other)])


def negative(row):
    """Return the tuple of the negatives of a row."""
    return tuple([-part for part in row])


def still_lacking(wanted, given):
    """Return the tuple of what is wanted less what is given, each at least 0."""
    return tuple([max(0, first - second) for first, second in zip(wanted, given)])

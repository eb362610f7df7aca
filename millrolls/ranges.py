"""Plans between two orders within a trim."""

from millrolls.patterns import patterns, trim
from millrolls.plans import counted
from millrolls.rows import negative
from millrolls.search import Search


def tight(mill, most):
    """Return the list of all patterns with a trim of at most so much, ascending."""
    return [
        pattern
        for kind in range(len(mill.rolls))
        for pattern in patterns(mill, kind)
        if trim(mill, pattern) <= most
    ]


def ranged_plan(mill, most, low, high):
    """Return the told plan between two orders within a trim, or None."""
    cuts = [(kind, counts) for kind, counts in tight(mill, most) if is_within(counts, high)]
    # What is needed to come to low stands ahead, and what must not go beyond high behind it.
    columns = [(counts + negative(counts), mill.rolls[kind][1]) for kind, counts in cuts]
    row = Search(columns, len(mill.widths)).first_row(columns, low + negative(high))
    if row is None:
        return None
    return counted([cuts[place] for place in row])


def is_within(counts, high):
    """Return whether no count is greater than that of an order."""
    return all([count <= most for count, most in zip(counts, high)])

"""Weights of the widths: what all plans cost at least."""

from millrolls.patterns import maximal
from millrolls.rationals import added, ceiling_of, is_less, times

NOTHING = (0, 1)


def are_weights(mill, weights):
    """Return whether a list of fractions is a list of weights of a mill."""
    return are_weights_among(mill, maximal(mill), weights)


def are_weights_among(mill, cuts, weights):
    """Return what are_weights returns, by all maximal patterns of the mill."""
    if len(weights) != len(mill.widths) or any([is_less(weight, NOTHING) for weight in weights]):
        return False
    # No weight is below 0, so the pieces of no other pattern weigh more than those of a maximal one.
    return all([not is_less((mill.rolls[kind][1], 1), worth(weights, counts)) for kind, counts in cuts])


def worth(weights, counts):
    """Return what so many pieces of each width weigh in all."""
    total = NOTHING
    for weight, count in zip(weights, counts):
        total = added(total, times(weight, (count, 1)))
    return total


def bound(weights, order):
    """Return the worth of an order, rounded up."""
    return ceiling_of(worth(weights, order))

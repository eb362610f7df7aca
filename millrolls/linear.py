"""Weights that are best for an order, and fractional plans of the least cost."""

from millrolls.patterns import maximal
from millrolls.rationals import made
from millrolls.simplex import Columns


def best_weights(mill, order):
    """Return some weights that are best for an order."""
    return weights_among(mill, maximal(mill), order)


def weights_among(mill, cuts, order):
    """Return what best_weights returns, by all maximal patterns of the mill."""
    tableau = best_tableau(mill, cuts, order)
    return [made(price, tableau.scale) for price in tableau.thing_prices()]


def fractional_plan(mill, order):
    """Return some fractional plan of the least cost for an order."""
    cuts = maximal(mill)
    tableau = best_tableau(mill, cuts, order)
    return [(cuts[place], made(times, tableau.scale)) for place, times in tableau.times()]


def best_tableau(mill, cuts, order):
    """Return the tableau of the cheapest fractional times of some patterns for an order."""
    return Columns([(counts, mill.rolls[kind][1]) for kind, counts in cuts]).cheapest(order)

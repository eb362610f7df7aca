"""Fractional plans of the least cost, rounded to plans."""

from millrolls.linear import fractional_plan
from millrolls.plans import least_plan, plan_counts
from millrolls.rationals import ceiling_of, floor_of
from millrolls.rows import still_lacking


def rounded_up(mill, order):
    """Return the plan of the fractions rounded up."""
    return [(pattern, ceiling_of(times)) for pattern, times in fractional_plan(mill, order)]


def rounded_down(mill, order):
    """Return the plan of the fractions rounded down, and of the told plan for what this leaves."""
    floors = [(pattern, floor_of(times)) for pattern, times in fractional_plan(mill, order)]
    plan = [(pattern, times) for pattern, times in floors if times > 0]
    rest = still_lacking(order, plan_counts(mill, plan))
    return joined(plan, least_plan(mill, rest))


def joined(plan, other):
    """Return the plan that cuts what two plans cut."""
    times = {}
    for pattern, many in plan + other:
        times[pattern] = times.get(pattern, 0) + many
    return sorted(times.items())

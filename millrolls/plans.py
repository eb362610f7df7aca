"""Plans: lists of tuples (pattern, times), and the cheapest ones that meet an order."""

from millrolls.patterns import is_pattern, maximal, trim
from millrolls.search import Search


def plan_counts(mill, plan):
    """Return the tuple of how many of each width a plan gives."""
    return tuple([sum([times * counts[place] for (_, counts), times in plan]) for place in range(len(mill.widths))])


def plan_cost(mill, plan):
    """Return what the rolls of a plan cost."""
    return sum([times * mill.rolls[kind][1] for (kind, _), times in plan])


def plan_trim(mill, plan):
    """Return the trim of all rolls of a plan."""
    return sum([times * trim(mill, pattern) for pattern, times in plan])


def is_plan(mill, plan):
    """Return whether a list of tuples ((number, tuple of numbers), number) is a plan."""
    return (
        all([is_pattern(mill, pattern) and times >= 1 for pattern, times in plan])
        and all([plan[at][0] < plan[at + 1][0] for at in range(len(plan) - 1)])
    )


def meets(mill, order, plan):
    """Return whether a list is a plan, as in is_plan, and gives at least what is ordered."""
    return is_plan(mill, plan) and all([
        given >= wanted for given, wanted in zip(plan_counts(mill, plan), order)
    ])


def counted(cuts):
    """Return the plan of a list of patterns."""
    times = {}
    for pattern in cuts:
        times[pattern] = times.get(pattern, 0) + 1
    return sorted(times.items())


def least_cost(mill, order):
    """Return the least cost of plans that meet an order."""
    rest = ordered(order, order)
    search = Search(order_columns(mill, maximal(mill), order), len(rest))
    return search.least(rest, search.greatest_cost(rest))


def least_plan(mill, order):
    """Return the told plan among the cheapest ones that meet an order."""
    cuts = maximal(mill)
    columns = order_columns(mill, cuts, order)
    rest = ordered(order, order)
    row = Search(columns, len(rest)).first_row(columns, rest)
    return counted([cuts[place] for place in row])


def order_columns(mill, cuts, order):
    """Return the list of tuples (counts of the widths that are ordered, cost) of some patterns."""
    return [(ordered(counts, order), mill.rolls[kind][1]) for kind, counts in cuts]


def ordered(counts, order):
    """Return the tuple of the counts of the widths of which something is ordered."""
    return tuple([count for count, wanted in zip(counts, order) if wanted > 0])

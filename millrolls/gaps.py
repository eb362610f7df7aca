"""Gaps: how much more an order costs at least than its fractional plans, rounded up."""

from millrolls.linear import best_weights
from millrolls.patterns import maximal
from millrolls.search import Search
from millrolls.weights import worth


def fraction_cost(mill, order):
    """Return the least cost of the fractional plans for an order."""
    return worth(best_weights(mill, order), order)


def gap(mill, order):
    """Return the gap of an order."""
    return gap_by(mill_search(mill), order)


def gaps_within(mill, most):
    """Return the list of tuples (order, gap) of the orders of at most so many with a gap above 0, ascending."""
    search = mill_search(mill)
    gaps = [(order, gap_by(search, order)) for order in orders_within(mill, most)]
    return [(order, above) for order, above in gaps if above > 0]


def mill_search(mill):
    """Return the search for the cheapest maximal patterns that give what is ordered of all widths."""
    columns = [(counts, mill.rolls[kind][1]) for kind, counts in maximal(mill)]
    return Search(columns, len(mill.widths))


def gap_by(search, order):
    """Return the gap of an order, by the search of its mill."""
    return search.least(order, search.greatest_cost(order)) - search.corner(order).worth(order)


def orders_within(mill, most):
    """Return the list of all orders of at most so many of each width, ascending."""
    orders = [()]
    for _ in mill.widths:
        orders = [order + (count,) for order in orders for count in range(most + 1)]
    return orders


def single_costs(mill, place):
    """Return the tuple of the least costs of orders of one width below the turning point, and the best step."""
    steps = single_steps(mill, place)
    best = best_step(steps)
    costs = [0]
    for many in range(1, (best[0] - 1) * max([pieces for pieces, _ in steps]) + 1):
        costs.append(min([cost + costs[max(0, many - pieces)] for pieces, cost in steps]))
    return (costs, best)


def single_steps(mill, place):
    """Return the list of the steps (pieces, cost) for the width at a place."""
    wide = mill.widths[place]
    return [(min(room // wide, mill.knives), cost) for room, cost in mill.rolls if room >= wide]


def best_step(steps):
    """Return the step with the least cost of a piece, of several the one with the fewest pieces."""
    best = steps[0]
    for pieces, cost in steps:
        # The costs of a piece are compared without dividing, by the pieces of both steps.
        if (cost * best[0], pieces) < (best[1] * pieces, best[0]):
            best = (pieces, cost)
    return best


def single_cost(costs, many):
    """Return the least cost of an order of so many of one width, by what single_costs returns."""
    below, (pieces, cost) = costs
    if many < len(below):
        return below[many]
    # So many best steps lead to an order just below the turning point.
    times = (many - len(below)) // pieces + 1
    return below[many - times * pieces] + times * cost


def single_gaps(mill, place):
    """Return the tuple of the gaps of one width below the turning point, and those that come again and again."""
    costs = single_costs(mill, place)
    turning = len(costs[0])
    behind = turning + costs[1][0]
    return (
        [single_gap(costs, many) for many in range(turning)],
        [single_gap(costs, many) for many in range(turning, behind)],
    )


def single_gap(costs, many):
    """Return the gap of an order of so many of one width, by what single_costs returns."""
    pieces, cost = costs[1]
    # The best weights give each piece the cost of a piece in the best step.
    return single_cost(costs, many) - -(-many * cost // pieces)

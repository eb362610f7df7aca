"""Papers of orders, which show without search that no plan costs less than so much.

A row of a paper is a tuple (rest, number, weights or None): no plan that meets the rest costs less
than the number, by these weights, or by the rows for all that one more roll can leave of the rest.
"""

from heapq import heappop, heappush

from millrolls.linear import weights_among
from millrolls.patterns import maximal
from millrolls.plans import least_cost
from millrolls.rows import negative, still_lacking
from millrolls.weights import are_weights_among, bound


def tree_paper(mill, order):
    """Return the told paper of an order, by rests descending."""
    cuts = maximal(mill)
    needed = {order: least_cost(mill, order)}
    # Each roll leaves less, so the greatest rest that waits is needed by none that is still to come.
    waiting = [negative(order)]
    paper = []
    while waiting:
        rest = negative(heappop(waiting))
        number = needed[rest]
        weights = weights_among(mill, cuts, rest)
        if bound(weights, rest) >= number:
            paper.append((rest, number, weights))
            continue
        paper.append((rest, number, None))
        for behind, cost in ways_on(mill, cuts, rest):
            if behind not in needed:
                heappush(waiting, negative(behind))
            needed[behind] = max(number - cost, needed.get(behind, number - cost))
    return paper


def ways_on(mill, cuts, rest):
    """Return the list of tuples (rest behind, cost) of the patterns that give something of a rest."""
    found = [(still_lacking(rest, counts), mill.rolls[kind][1]) for kind, counts in cuts]
    return [(behind, cost) for behind, cost in found if behind != rest]


def verify_tree(mill, order, least, paper):
    """Return whether a paper shows that no plan that meets an order costs less than so much."""
    numbers = {rest: number for rest, number, _ in paper}
    # Where a rest stands twice there are fewer numbers than rows.
    if len(numbers) < len(paper) or not all([is_rest(mill, rest) for rest in numbers]):
        return False
    if order not in numbers or numbers[order] < least:
        return False
    cuts = maximal(mill)
    for rest, number, weights in paper:
        if weights is None and not holds_by_rows(mill, cuts, numbers, rest):
            return False
        if weights is not None and not holds_by_weights(mill, cuts, weights, rest, number):
            return False
    return True


def is_rest(mill, rest):
    """Return whether a tuple of numbers can be a rest of an order of a mill."""
    return len(rest) == len(mill.widths) and all([count >= 0 for count in rest])


def holds_by_weights(mill, cuts, weights, rest, number):
    """Return whether a row with weights holds."""
    return (
        all([bottom >= 1 for _, bottom in weights])
        and are_weights_among(mill, cuts, weights)
        and number <= bound(weights, rest)
    )


def holds_by_rows(mill, cuts, numbers, rest):
    """Return whether the row with None for a rest holds, in a paper with these numbers."""
    if not any(rest):
        return numbers[rest] <= 0
    return all([
        behind in numbers and numbers[rest] <= cost + numbers[behind]
        for behind, cost in ways_on(mill, cuts, rest)
    ])

"""Plans over days: what is cut on a day can be given on this day and later.

The search has one thing for each width and day on which some of it is ordered, which all days up to
this one give; behind these it has one limit for each day: how many rolls can still be cut on it.
"""

from millrolls.patterns import maximal
from millrolls.plans import counted, plan_counts
from millrolls.rows import added, less
from millrolls.search import Search


def least_days(mill, most, orders):
    """Return the tuple of the least cost and the list of the told plans, one for each day, or None."""
    cuts = maximal(mill)
    needs = needs_of(orders)
    columns = [day_columns(mill, cuts, needs, day, len(orders)) for day in range(len(orders))]
    search = Search([column for some in columns for column in some], len(needs))
    rest = tuple([amount for _, _, amount in needs] + [-most for _ in orders])
    greatest = most * len(orders) * max([cost for _, cost in mill.rolls])
    cost = search.least(rest, min(greatest, search.greatest_cost(rest)))
    if cost is None:
        return None
    rows = told_rows(search, columns, rest, cost)
    return (cost, [counted([cuts[place] for place in row]) for row in rows])


def needs_of(orders):
    """Return the list of tuples (day, place, amount): by a day, so many of the width at a place are ordered."""
    return [
        (day, place, sum([earlier[place] for earlier in orders[:day + 1]]))
        for day, order in enumerate(orders)
        for place, count in enumerate(order)
        # Where nothing more is ordered, what was needed by the day before is enough.
        if count > 0
    ]


def day_columns(mill, cuts, needs, day, days):
    """Return the list of the columns of some patterns that are cut on a day."""
    limits = tuple([-1 if other == day else 0 for other in range(days)])
    return [
        (tuple([counts[place] if by >= day else 0 for by, place, _ in needs]) + limits, mill.rolls[kind][1])
        for kind, counts in cuts
    ]


def told_rows(search, columns, rest, cost):
    """Return the list of the first rows of places that give a rest at its least cost, one for each day."""
    rows = []
    for day, some in enumerate(columns):
        row = []
        place = 0
        # Of two rows of which one begins the other, the shorter one comes first.
        while search.least(closed(search, rest, day), cost) is None:
            place = next_place(search, some, place, rest, cost)
            gives, price = some[place]
            row.append(place)
            rest = search.behind(rest, gives)
            cost -= price
        rest = closed(search, rest, day)
        rows.append(row)
    return rows


def closed(search, rest, day):
    """Return a rest in which nothing more can be cut on a day."""
    limit = search.pieces + day
    return rest[:limit] + (0,) + rest[limit + 1:]


def next_place(search, columns, place, rest, cost):
    """Return the first place from one on whose column begins what gives a rest at its least cost."""
    # As in first_row of a search, the places of a row only ascend.
    while search.cheapest_behind(rest, columns[place][0], cost - columns[place][1]) is None:
        place += 1
    return place


def run_days(mill, orders, plans):
    """Return the list of what is left over behind each day, None from the first day with too little on."""
    left = tuple([0 for _ in mill.widths])
    found = []
    for order, plan in zip(orders, plans):
        if left is not None:
            left = less(added(left, plan_counts(mill, plan)), order)
        if left is not None and min(left) < 0:
            left = None
        found.append(left)
    return found

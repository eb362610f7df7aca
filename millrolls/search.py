"""The cheapest rows of columns that give what is needed: what they cost, and the first one.

A column is a tuple (row, cost), as in simplex. A rest is a tuple of what is still needed of each
thing. The things that come first are pieces, whose rests are at least 0; behind them stand limits,
whose rests are below 0 as long as there is room, and never above 0.
"""

from heapq import heappop, heappush

from millrolls.corners import Corner
from millrolls.rows import dot, still_lacking
from millrolls.simplex import Columns


class Search:
    """Columns to choose from, of whose things so many are pieces."""

    def __init__(self, columns, pieces):
        self.columns = cheapest_of_alike(columns)
        self.pieces = pieces
        self.chooser = Columns(self.columns)
        self.helpful = [
            [place for place, column in enumerate(self.columns) if column[0][piece] > 0]
            for piece in range(pieces)
        ]
        self.corners = []
        self.corner_of = {}

    def greatest_cost(self, rest):
        """Return a cost that no cheapest row for a rest exceeds."""
        # Each column of a cheapest row gives a piece that is needed.
        return sum(rest[:self.pieces]) * max([cost for _, cost in self.columns], default=0)

    def least(self, rest, most):
        """Return the least cost of what gives a rest, None if nothing does at a cost of at most so much."""
        spent = {rest: 0}
        # Each way has the least that it can still cost in all, what is spent (below 0), and its rest:
        # the cheapest one comes first, and of several the one on which most is spent.
        queue = [(0, 0, rest)] if most >= 0 else []
        while queue:
            cost, below, now = heappop(queue)
            if -below > spent[now]:
                continue
            if self.is_done(now):
                return -below
            corner = self.corner(now)
            bound = corner.bound(now, most + below)
            if bound is None:
                continue
            if bound - below > cost:
                heappush(queue, (bound - below, below, now))
            elif corner.is_met(now):
                return cost
            else:
                for possible, price, behind in self.ways(now, most + below):
                    if behind not in spent or price - below < spent[behind]:
                        spent[behind] = price - below
                        heappush(queue, (max(cost, possible - below), below - price, behind))
        return None

    def is_done(self, rest):
        """Return whether no piece of a rest is needed."""
        return not any(rest[:self.pieces])

    def corner(self, rest):
        """Return the corner of the least fractional cost of a rest."""
        if rest not in self.corner_of:
            self.corner_of[rest] = self.fitting_corner(rest)
        return self.corner_of[rest]

    def fitting_corner(self, rest):
        """Return a known corner that fits a rest, or the new one that does."""
        for corner in self.corners:
            if corner.fits(rest):
                return corner
        corner = Corner(self.columns, self.chooser.cheapest(rest))
        self.corners.append(corner)
        return corner

    def ways(self, rest, most):
        """Return the list of tuples (least possible cost, price, rest behind) of what to go on with."""
        corner = self.corner(rest)
        room = most * corner.scale - dot(corner.prices, rest)
        # What a column costs in excess is lost for good, so most columns need no closer look.
        columns = [self.columns[place] for place in self.fewest_helpful(rest) if corner.excesses[place] <= room]
        # Many columns at once lead to a small rest soon, which often is all that is to be tried.
        columns.append(corner.rounded_down(rest))
        found = []
        for gives, price in columns:
            behind = self.behind(rest, gives)
            if behind is not None and price + corner.worth(behind) <= most:
                found.append((price + corner.worth(behind), price, behind))
        return found

    def fewest_helpful(self, rest):
        """Return the places of the columns that give a needed piece, one that the fewest columns give."""
        return min([self.helpful[piece] for piece in range(self.pieces) if rest[piece] > 0], key=len)

    def behind(self, rest, gives):
        """Return the rest behind a column, None if there is no room for it."""
        limits = [first - second for first, second in zip(rest[self.pieces:], gives[self.pieces:])]
        if any([limit > 0 for limit in limits]):
            return None
        return still_lacking(rest[:self.pieces], gives) + tuple(limits)

    def first_row(self, columns, rest):
        """Return the list of the places in columns of a cheapest row, ascending, of several the first; or None."""
        cost = self.least(rest, self.greatest_cost(rest))
        if cost is None:
            return None
        row = []
        # A column that is in no cheapest row now is in none later: with what was taken by then,
        # that one would be a cheapest row now. So the places only ascend.
        for place, (gives, price) in enumerate(columns):
            behind = self.cheapest_behind(rest, gives, cost - price)
            while behind is not None:
                row.append(place)
                rest = behind
                cost = cost - price
                behind = self.cheapest_behind(rest, gives, cost - price)
        return row

    def cheapest_behind(self, rest, gives, most):
        """Return the rest behind a column that is of use if it costs at most so much, else None."""
        behind = self.behind(rest, gives)
        if behind is None or behind[:self.pieces] == rest[:self.pieces]:
            return None
        if self.corner(rest).worth(behind) > most or self.least(behind, most) is None:
            return None
        return behind


def cheapest_of_alike(columns):
    """Return the list of columns without those that give the same as one that costs at most as much."""
    best = {}
    for gives, cost in columns:
        best[gives] = min(cost, best.get(gives, cost))
    return list(best.items())

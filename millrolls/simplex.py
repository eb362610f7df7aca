"""The simplex method in integers: times of columns, in fractions, that give what is needed.

A column is a tuple (row, cost): what it gives of each thing that is needed, and what it costs.
Columns are told by their places. Each thing has two more columns, which are told by numbers
below 0: its surplus takes one of it for nothing, and its lack gives one at a very great cost.
"""

from millrolls.rows import dot

# Greater than what any plan costs, also where only a small part of a piece is lacking.
LACK_COST = 10 ** 15


def surplus_of(thing):
    """Return the number of the column that takes one of a thing."""
    return -1 - thing


def lack_of(thing, size):
    """Return the number of the column that gives one of a thing, of so many things in all."""
    return -1 - size - thing


class Tableau:
    """Some times of columns that give what is needed: whole numbers, to be divided by the scale.

    As many columns are in use as there are things. Each of their rows begins with the times of the
    column; behind it stands the inverse of what the columns in use give.
    """

    def __init__(self, needs):
        size = len(needs)
        # Where nothing is needed the row is turned, so that it can begin with the surplus.
        self.signs = [1 if need > 0 else -1 for need in needs]
        self.using = [
            lack_of(thing, size) if needs[thing] > 0 else surplus_of(thing) for thing in range(size)
        ]
        self.rows = [[abs(needs[thing])] + unit(thing, size) for thing in range(size)]
        self.costs = [LACK_COST if need > 0 else 0 for need in needs]
        self.scale = 1

    def thing_prices(self):
        """Return the list of what one of each thing costs."""
        return [sign * cost for sign, cost in zip(self.signs, self.costs)]

    def inverse_rows(self):
        """Return the list of the rows that tell the times of the columns in use from the needs."""
        return [[sign * part for sign, part in zip(self.signs, row[1:])] for row in self.rows]

    def times(self):
        """Return the list of tuples (place, times) of the columns that are used, ascending."""
        pairs = [(place, row[0]) for place, row in zip(self.using, self.rows)]
        return sorted([(place, times) for place, times in pairs if place >= 0 and times > 0])

    def use(self, place, gives, excess):
        """Take a column into use whose cost is less than what it gives by -excess."""
        turned = [sign * part for sign, part in zip(self.signs, gives)]
        shares = [dot(row[1:], turned) for row in self.rows]
        leaving = self.leaving(shares)
        base = self.rows[leaving]
        pivot = shares[leaving]
        # The divisions leave no rest: the numbers are determinants of what the columns in use give.
        self.rows = [
            row if at == leaving else combined(row, pivot, base, -share, self.scale)
            for at, (row, share) in enumerate(zip(self.rows, shares))
        ]
        self.costs = combined(self.costs, pivot, base[1:], excess, self.scale)
        self.using[leaving] = place
        self.scale = pivot

    def leaving(self, shares):
        """Return which row's column goes out of use for one with these shares in the rows."""
        first = None
        for at in range(len(shares)):
            if shares[at] > 0 and (first is None or self.is_ahead(at, first, shares)):
                first = at
        return first

    def is_ahead(self, at, other, shares):
        """Return whether a row, divided by its share, comes ahead of another one."""
        # The whole rows are compared, not the times alone: so no tableau comes again.
        row = [part * shares[other] for part in self.rows[at]]
        return row < [part * shares[at] for part in self.rows[other]]


def unit(thing, size):
    """Return the list with a 1 at the place of a thing, and 0 at all others."""
    return [1 if at == thing else 0 for at in range(size)]


def combined(one, first, other, second, divisor):
    """Return the list of so many times one row and so many times another one, divided."""
    return [(part * first + more * second) // divisor for part, more in zip(one, other)]


class Columns:
    """Columns to choose from, for one row of needs after the other."""

    def __init__(self, columns):
        self.columns = list(columns)
        # Columns that were of use once mostly are again, so they are looked at first.
        self.useful = {}

    def cheapest(self, needs):
        """Return the tableau of the times that give what is needed at the least cost."""
        tableau = Tableau(needs)
        excess, place = self.best(tableau)
        while excess < 0:
            if place >= 0:
                self.useful[place] = True
            tableau.use(place, self.gives(place, len(needs)), excess)
            excess, place = self.best(tableau)
        return tableau

    def gives(self, place, size):
        """Return the row of what a column gives."""
        if place >= 0:
            return self.columns[place][0]
        return [-1 if surplus_of(thing) == place else 0 for thing in range(size)]

    def best(self, tableau):
        """Return the tuple of the least excess of a column, and the column."""
        prices = tableau.thing_prices()
        known = [(price, surplus_of(thing)) for thing, price in enumerate(prices)]
        known.extend([(self.excess(place, prices, tableau.scale), place) for place in self.useful])
        if min(known)[0] < 0 or not self.columns:
            return min(known)
        return min([(self.excess(place, prices, tableau.scale), place) for place in range(len(self.columns))])

    def excess(self, place, prices, scale):
        """Return what a column costs beyond what it gives, at prices that are to be divided."""
        gives, cost = self.columns[place]
        return cost * scale - dot(prices, gives)

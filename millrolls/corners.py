"""What the columns in use at a corner tell of all plans: a bound that is mostly met.

Times of the columns in use are whole only if the other columns leave the right remainders. So a
plan costs at least the worth of what is needed and, beyond it, the excess of the cheapest other
columns with these remainders. If the columns in use fill up what these leave, with times that are
at least 0, then that is a cheapest plan.
"""

from heapq import heappop, heappush

from millrolls.rows import added, dot, less
from millrolls.simplex import surplus_of

# How many ways are taken before a bound that could still rise is left as it is.
MOST_EFFORT = 3000


class Corner:
    """The columns in use in a tableau, their prices, and the remainders that other columns leave.

    A step is a tuple (excess, column, remainder). A way is a tuple of places of steps, descending.
    """

    def __init__(self, columns, tableau):
        self.columns = columns
        self.using = list(tableau.using)
        self.inverse = tableau.inverse_rows()
        self.prices = tableau.thing_prices()
        self.scale = tableau.scale
        self.excesses = [cost * self.scale - dot(self.prices, gives) for gives, cost in columns]
        self.steps = self.cheapest_steps()
        # The steps that leave a remainder which cheaper or earlier steps do not leave.
        self.useful = []
        nothing = tuple([0 for _ in self.using])
        # For each remainder the least excess that leaves it, and the way; the next ways wait in
        # a queue, with how many useful steps come ahead of their last one.
        self.reached = {nothing: (0, ())}
        self.queue = []
        self.offer_alone(0)

    def cheapest_steps(self):
        """Return the list of the cheapest step for each remainder, ascending."""
        best = {}
        for place, (gives, _) in enumerate(self.columns):
            self.keep_cheaper(best, self.remainder(gives), (self.excesses[place], place))
        for thing, price in enumerate(self.prices):
            self.keep_cheaper(best, self.remainder(self.taking(thing)), (price, surplus_of(thing)))
        return sorted([(excess, place, left) for left, (excess, place) in best.items()])

    def keep_cheaper(self, best, left, step):
        """Write a step into a dict if it leaves a remainder, and this at the least excess so far."""
        if any(left) and (left not in best or step < best[left]):
            best[left] = step

    def taking(self, thing):
        """Return the row of the column that takes one of a thing."""
        return [-1 if at == thing else 0 for at in range(len(self.prices))]

    def remainder(self, row):
        """Return the remainder of a row: what its times of the columns in use have beyond whole numbers."""
        return tuple([dot(part, row) % self.scale for part in self.inverse])

    def fits(self, rest):
        """Return whether the columns in use give a rest, in fractions, at the least cost."""
        return all([dot(part, rest) >= 0 for part in self.inverse])

    def rounded_down(self, rest):
        """Return the tuple (row, cost) of the columns in use together, their times for a rest rounded down."""
        gives = tuple([0 for _ in rest])
        total = 0
        for place, part in zip(self.using, self.inverse):
            if place >= 0:
                times = dot(part, rest) // self.scale
                row, cost = self.columns[place]
                gives = added(gives, [times * more for more in row])
                total += times * cost
        return (gives, total)

    def worth(self, rest):
        """Return what a rest costs at least: its worth, rounded up."""
        return max(0, -(-dot(self.prices, rest) // self.scale))

    def bound(self, rest, most):
        """Return what a rest costs at least, with its remainder; None if this is more than so much."""
        worth = dot(self.prices, rest)
        excess = self.least_excess(self.remainder(rest), most * self.scale - worth)
        if excess is None:
            return None
        return -(-(worth + excess) // self.scale)

    def least_excess(self, left, most):
        """Return the least excess that leaves a remainder, or less; None if it is more than so much."""
        effort = 0
        while left not in self.reached and self.next_excess(most) <= most and effort < MOST_EFFORT:
            self.take_next()
            effort += 1
        excess = self.reached[left][0] if left in self.reached else self.next_excess(most)
        return excess if excess <= most else None

    def next_excess(self, most):
        """Return the excess of the next way, and if there is none, one that is more than so much."""
        return self.queue[0][0] if self.queue else most + 1

    def take_next(self):
        """Take the way with the least excess, of several the first, and offer the ones that it leads to."""
        excess, way, left, ahead = heappop(self.queue)
        is_new = left not in self.reached
        if len(way) == 1:
            if is_new:
                self.useful.append(way[0])
            self.offer_alone(way[0] + 1)
        elif ahead + 1 < len(self.useful) and self.useful[ahead + 1] <= way[-2]:
            last = self.steps[way[-1]]
            self.offer(excess - last[0], way[:-1], self.moved(left, last[2], -1), ahead + 1)
        # The first way to a remainder is made of first ways to others: no other one is gone on with.
        if is_new:
            self.reached[left] = (excess, way)
            self.offer(excess, way, left, 0)

    def offer_alone(self, place):
        """Put the way of one step alone into the queue, if there is a step at this place."""
        if place < len(self.steps):
            excess, _, left = self.steps[place]
            heappush(self.queue, (excess, (place,), left, 0))

    def offer(self, excess, way, left, ahead):
        """Put a way with one more step into the queue: the useful one behind so many others."""
        more, _, change = self.steps[self.useful[ahead]]
        heappush(self.queue, (excess + more, way + (self.useful[ahead],), self.moved(left, change, 1), ahead))

    def moved(self, left, change, sign):
        """Return a remainder with another one added, or taken away where the sign is -1."""
        return tuple([(part + sign * other) % self.scale for part, other in zip(left, change)])

    def is_met(self, rest):
        """Return whether some plan for a rest costs just the bound that was asked for."""
        left = self.remainder(rest)
        if left not in self.reached:
            return False
        for step in self.reached[left][1]:
            place = self.steps[step][1]
            rest = less(rest, self.columns[place][0] if place >= 0 else self.taking(surplus_of(place)))
        # A lack would cost more than any bound, so only times below 0 are in the way.
        return self.fits(rest)

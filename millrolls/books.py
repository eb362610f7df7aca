"""Books: what was ordered of a mill and what was cut, deed by deed."""

from millrolls.errors import BadOrder, BadPattern
from millrolls.mills import Mill, is_order
from millrolls.patterns import is_pattern
from millrolls.rows import added, still_lacking

MOST_ROLLS_AT_A_TIME = 255


class Book:
    """The deeds that stand: ("order", counts) and ("cut", pattern, many)."""

    def __init__(self, mill):
        # Whoever changes the mill later does not change what was done.
        self.mill = Mill(mill.rolls, mill.widths, mill.knives)
        self.deeds = []
        self.ordered = tuple([0 for _ in mill.widths])
        self.given = self.ordered
        self.cost = 0

    def order(self, counts):
        """Order so many of each width, and return what lacks then."""
        if not is_order(self.mill, counts):
            raise BadOrder()
        return self.keep(("order", counts))

    def cut(self, pattern, many):
        """Cut so many rolls by a pattern, and return what lacks then."""
        if not is_cut(self.mill, pattern, many):
            raise BadPattern()
        return self.keep(("cut", pattern, many))

    def keep(self, deed):
        """Put a deed behind the others, and return what lacks then."""
        self.deeds.append(deed)
        self.count_in(deed, 1)
        return self.lacking()

    def count_in(self, deed, sign):
        """Add what a deed ordered or cut, or take it away where the sign is -1."""
        if deed[0] == "order":
            self.ordered = added(self.ordered, [sign * count for count in deed[1]])
        else:
            _, (kind, counts), many = deed
            self.given = added(self.given, [sign * many * count for count in counts])
            self.cost += sign * many * self.mill.rolls[kind][1]

    def totals(self):
        """Return the tuple of what was ordered and what was cut."""
        return (self.ordered, self.given)

    def lacking(self):
        """Return what was ordered in all less what was cut in all, at least 0."""
        return still_lacking(self.ordered, self.given)

    def spent(self):
        """Return the cost of all rolls that were cut."""
        return self.cost

    def undo(self):
        """Undo the last deed that stands, and return whether there was one."""
        if not self.deeds:
            return False
        self.count_in(self.deeds.pop(), -1)
        return True

    def branch(self):
        """Return a book of its own with the same deeds."""
        other = Book(self.mill)
        for deed in self.deeds:
            other.keep(deed)
        return other


def is_cut(mill, pattern, many):
    """Return whether so many rolls of a mill can be cut at a time by what may be a pattern."""
    return is_pattern(mill, pattern) and 1 <= many <= MOST_ROLLS_AT_A_TIME

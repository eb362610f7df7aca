"""Mills, their bounds, and the orders of a mill."""

MOST_ROLLS = 3
MOST_WIDTHS = 6
MOST_WIDTH = 400
MOST_COST = 100
MOST_KNIVES = 12
MOST_COUNT = 99


class Mill:
    """The kinds of rolls, the widths that can be ordered, and the most pieces of a roll."""

    def __init__(self, rolls, widths, knives):
        self.rolls = list(rolls)
        self.widths = list(widths)
        self.knives = knives


def is_mill(mill):
    """Return whether a mill keeps all its bounds."""
    # The rolls come first: only if there are some is there a widest one.
    return (
        are_rolls(mill.rolls)
        and are_widths(mill.widths, widest_roll(mill.rolls))
        and 1 <= mill.knives <= MOST_KNIVES
    )


def are_rolls(rolls):
    """Return whether a list of tuples (width, cost) can be the kinds of rolls of a mill."""
    return 1 <= len(rolls) <= MOST_ROLLS and all([is_roll(width, cost) for width, cost in rolls])


def is_roll(width, cost):
    """Return whether a kind of rolls can have this width and this cost."""
    return 1 <= width <= MOST_WIDTH and 1 <= cost <= MOST_COST


def widest_roll(rolls):
    """Return the width of the widest of some rolls."""
    return max([roll[0] for roll in rolls])


def are_widths(widths, widest):
    """Return whether a list can be the widths of a mill whose widest roll is so wide."""
    # No roll is wider than MOST_WIDTH, so the widest one keeps that bound for the widths too.
    return (
        1 <= len(widths) <= MOST_WIDTHS
        and len(set(widths)) == len(widths)
        and all([1 <= width <= widest for width in widths])
    )


def is_order(mill, order):
    """Return whether a tuple of numbers is an order of a mill."""
    return len(order) == len(mill.widths) and all([0 <= count <= MOST_COUNT for count in order])

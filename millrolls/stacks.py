"""Open stacks: the order of patterns with the fewest stacks open, and papers that bound them.

Several widths are told by one integer: the bit of each of their places is 1.
"""


class Stacks:
    """What must still be open of a row of patterns when some of them are cut."""

    def __init__(self, cuts):
        self.cuts = list(cuts)
        # The fewest stacks from some widths on, when just the patterns within these are cut.
        self.known = {}

    def fewest_behind(self, done):
        """Return the fewest stacks that must be open from those at the places done on."""
        given = all_widths(self.cuts, done)
        staying = given & all_widths(self.cuts, others(self.cuts, done))
        # Whichever pattern comes next, all that stay open are open then. So those that give no
        # further width may come first: they open nothing, and the others have no more open later.
        return max(bits_of(staying), self.fewest_beyond(given))

    def fewest_beyond(self, given):
        """Return the fewest stacks that must be open from the widths given on, all within these being cut."""
        if given not in self.known:
            wider = sorted(set([widths_of(pattern) | given for pattern in self.cuts]))
            self.known[given] = min(
                [self.fewest_through(given, widths) for widths in wider if widths != given], default=0
            )
        return self.known[given]

    def fewest_through(self, given, widths):
        """Return the fewest stacks that must be open if the next pattern adds to the widths given up to these."""
        left = [widths_of(pattern) for pattern in self.cuts if widths_of(pattern) | given != given]
        # The next pattern is among those left: its own widths stay open too, or are new.
        staying = given & union(left)
        return max(bits_of(staying) + bits_of(widths ^ given), self.fewest_beyond(widths))

    def next_place(self, done, most):
        """Return the first place that can come behind those done with at most so many stacks open."""
        return min([
            place for place in others(self.cuts, done)
            if open_stacks(self.cuts, done, place) <= most and self.fewest_behind(done + [place]) <= most
        ])


def widths_of(pattern):
    """Return the widths that a pattern gives."""
    return sum([1 << at for at, count in enumerate(pattern[1]) if count > 0])


def union(rows):
    """Return all widths of several."""
    total = 0
    for widths in rows:
        total = total | widths
    return total


def all_widths(cuts, places):
    """Return the widths that the patterns at some places give."""
    return union([widths_of(cuts[place]) for place in places])


def bits_of(widths):
    """Return how many widths these are."""
    return sum([(widths >> at) & 1 for at in range(widths.bit_length())])


def others(cuts, places):
    """Return the list of all other places."""
    return [place for place in range(len(cuts)) if place not in places]


def open_stacks(cuts, done, place):
    """Return how many stacks are open while the pattern at a place is cut behind those at the places done."""
    left = [other for other in others(cuts, done) if other != place]
    between = all_widths(cuts, done) & all_widths(cuts, left)
    return bits_of(widths_of(cuts[place]) | between)


def most_open(cuts, order):
    """Return the most stacks that are open at once in an order."""
    return max([open_stacks(cuts, order[:at], place) for at, place in enumerate(order)], default=0)


def fewest_open(cuts):
    """Return the tuple of the fewest stacks that must be open at once, and the told order."""
    stacks = Stacks(cuts)
    fewest = stacks.fewest_behind([])
    order = []
    while len(order) < len(cuts):
        order.append(stacks.next_place(order, fewest))
    return (fewest, order)


def stack_paper(cuts):
    """Return the told paper: all sets of patterns, ascending, with the fewest stacks open from them on."""
    stacks = Stacks(cuts)
    sets = [()]
    for place in range(len(cuts)):
        sets = sets + [places + (place,) for places in sets]
    return [(places, stacks.fewest_behind(places)) for places in sorted(sets)]


def verify_stacks(cuts, least, paper):
    """Return whether a paper shows that in each order at least so many stacks are open at once."""
    numbers = {places: number for places, number in paper}
    # Where a set stands twice there are fewer numbers than rows.
    if len(numbers) < len(paper) or not all([are_places(cuts, places) for places in numbers]):
        return False
    if () not in numbers or numbers[()] < least:
        return False
    return all([holds(cuts, numbers, places) for places in numbers])


def are_places(cuts, places):
    """Return whether a tuple of numbers holds places of a row of patterns, ascending, each once."""
    return sorted(set(places)) == list(places) and all([0 <= place < len(cuts) for place in places])


def holds(cuts, numbers, places):
    """Return whether the number of a set of places holds, in a paper with these numbers."""
    if len(places) == len(cuts):
        return numbers[places] <= 0
    for place in others(cuts, places):
        behind = tuple(sorted(places + (place,)))
        if behind not in numbers or numbers[places] > max(open_stacks(cuts, places, place), numbers[behind]):
            return False
    return True

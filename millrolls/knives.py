"""Changes of the knives: the order of patterns with the fewest changes between neighbours."""


class Knives:
    """What a row of patterns costs in changes from one pattern on.

    Equal counts are cut one behind the other: a way around by other counts is never shorter. So only
    the different counts are told apart, by their places, and several of them by one integer: the bit
    of each of their places is 1.
    """

    def __init__(self, cuts):
        different = sorted(set([counts for _, counts in cuts]))
        self.kinds = [different.index(counts) for _, counts in cuts]
        self.between = [[differences(one, other) for other in different] for one in different]
        self.known = {}

    def fewest_behind(self, kind, left):
        """Return the fewest changes from counts on, with those that are left to come."""
        if (kind, left) not in self.known:
            between = self.between[kind]
            self.known[(kind, left)] = min([
                between[other] + self.fewest_behind(other, left - (1 << other))
                for other in range(len(between)) if (left >> other) & 1
            ], default=0)
        return self.known[(kind, left)]

    def fewest_from(self, place, places):
        """Return the fewest changes from the pattern at a place on, with those at other places to come."""
        left = sorted(set([self.kinds[other] for other in places if other != place]))
        return self.fewest_behind(self.kinds[place], sum([1 << kind for kind in left]))

    def step(self, before, place):
        """Return the changes between the patterns at two places, none if there is none before."""
        return 0 if before is None else self.between[self.kinds[before]][self.kinds[place]]

    def next_place(self, before, places):
        """Return the first of some places that can come next with the fewest changes from there on."""
        return min([(self.step(before, place) + self.fewest_from(place, places), place) for place in places])[1]


def differences(one, other):
    """Return the sum of what the counts of two rows differ by."""
    return sum([abs(first - second) for first, second in zip(one, other)])


def changes(one, other):
    """Return the changes between two patterns."""
    return differences(one[1], other[1])


def total_changes(cuts, order):
    """Return the changes of an order in all."""
    return sum([changes(cuts[order[at]], cuts[order[at + 1]]) for at in range(len(order) - 1)])


def fewest_changes(cuts):
    """Return the tuple of the fewest changes in all, and the told order."""
    knives = Knives(cuts)
    order = []
    left = list(range(len(cuts)))
    while left:
        place = knives.next_place(order[-1] if order else None, left)
        order.append(place)
        left.remove(place)
    return (total_changes(cuts, order), order)

"""What the document says, by trying everything: slow, and without anything from the package but mills."""

import random
from functools import lru_cache
from itertools import product

from millrolls.mills import Mill, is_mill


def state(mill):
    return (list(mill.rolls), list(mill.widths), mill.knives)


def some_mill(rng, widths, kinds=None, widest=40, most_knives=6):
    """Return a mill of so many widths, by chance."""
    while True:
        kinds_now = kinds or rng.randint(1, 3)
        rolls = [(rng.randint(widest // 2, widest), rng.randint(1, 20)) for _ in range(kinds_now)]
        told = rng.sample(range(3, widest + 1), widths)
        mill = Mill(rolls, told, rng.randint(1, most_knives))
        if is_mill(mill):
            return mill


def some_mills(seed, many, widths, **more):
    rng = random.Random(seed)
    return [(rng, some_mill(rng, widths, **more)) for _ in range(many)]


def some_order(rng, mill, most):
    return tuple(rng.randint(0, most) for _ in mill.widths)


def all_patterns(mill, kind):
    found = []
    for counts in product(range(mill.knives + 1), repeat=len(mill.widths)):
        wide = sum(count * width for count, width in zip(counts, mill.widths))
        if any(counts) and sum(counts) <= mill.knives and wide <= mill.rolls[kind][0]:
            found.append((kind, counts))
    return found


def all_maximal(mill):
    found = []
    for kind in range(len(mill.rolls)):
        known = set(all_patterns(mill, kind))
        for _, counts in sorted(known):
            longer = [counts[:at] + (counts[at] + 1,) + counts[at + 1:] for at in range(len(counts))]
            if not any((kind, more) in known for more in longer):
                found.append((kind, counts))
    return found


def left(order, counts):
    return tuple(max(0, wanted - count) for wanted, count in zip(order, counts))


def cheapest_of(mill):
    """Return a function that tells the least cost of an order, by trying all patterns for each roll."""
    cuts = [pattern for kind in range(len(mill.rolls)) for pattern in all_patterns(mill, kind)]

    @lru_cache(None)
    def cheapest(order):
        if not any(order):
            return 0
        return min(
            mill.rolls[kind][1] + cheapest(left(order, counts))
            for kind, counts in cuts if left(order, counts) != order
        )

    return cheapest


def told_plan(mill, order):
    """Return the told plan of point 10, roll by roll."""
    cheapest = cheapest_of(mill)
    known = all_maximal(mill)
    cuts = []
    while any(order):
        for kind, counts in known:
            rest = left(order, counts)
            if rest != order and cheapest(rest) + mill.rolls[kind][1] == cheapest(order):
                cuts.append((kind, counts))
                order = rest
                break
    return [(pattern, cuts.count(pattern)) for pattern in sorted(set(cuts))]


def told_row(mill, most, low, high):
    """Return the told row of patterns of point 14, the best one of all rows; None if there is none."""
    cuts = []
    for kind in range(len(mill.rolls)):
        for pattern in all_patterns(mill, kind):
            wide = sum(count * width for count, width in zip(pattern[1], mill.widths))
            if mill.rolls[kind][0] - wide <= most:
                cuts.append(pattern)
    found = []

    def go_on(first, row, room, cost):
        if all(top - free >= least for top, free, least in zip(high, room, low)):
            found.append((cost, row))
            return
        for at in range(first, len(cuts)):
            kind, counts = cuts[at]
            if all(count <= free for count, free in zip(counts, room)):
                rest = tuple(free - count for count, free in zip(counts, room))
                go_on(at, row + [cuts[at]], rest, cost + mill.rolls[kind][1])

    go_on(0, [], high, 0)
    return min(found)[1] if found else None

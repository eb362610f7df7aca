"""What the document says, by trying everything: slow, and without anything from the package but mills."""

import random
from fractions import Fraction
from functools import lru_cache
from itertools import combinations_with_replacement, permutations, product

from millrolls.mills import Mill, is_mill


def state(mill):
    return (list(mill.rolls), list(mill.widths), mill.knives)


def some_mill(rng, widths, kinds=None, widest=40, most_knives=6):
    """Return a mill of so many widths, by chance."""
    while True:
        kinds_now = kinds or rng.randint(1, 3)
        rolls = [(rng.randint(widest // 2, widest), rng.randint(1, 20)) for _ in range(kinds_now)]
        told = rng.sample(range(3, widest + 1), widths)
        mill = Mill(rolls, told, rng.randint(1, most_knives))
        if is_mill(mill):
            return mill


def some_mills(seed, many, widths, **more):
    rng = random.Random(seed)
    return [(rng, some_mill(rng, widths, **more)) for _ in range(many)]


def some_order(rng, mill, most):
    return tuple(rng.randint(0, most) for _ in mill.widths)


def all_patterns(mill, kind):
    found = []
    for counts in product(range(mill.knives + 1), repeat=len(mill.widths)):
        wide = sum(count * width for count, width in zip(counts, mill.widths))
        if any(counts) and sum(counts) <= mill.knives and wide <= mill.rolls[kind][0]:
            found.append((kind, counts))
    return found


def all_maximal(mill):
    found = []
    for kind in range(len(mill.rolls)):
        known = set(all_patterns(mill, kind))
        for _, counts in sorted(known):
            longer = [counts[:at] + (counts[at] + 1,) + counts[at + 1:] for at in range(len(counts))]
            if not any((kind, more) in known for more in longer):
                found.append((kind, counts))
    return found


def left(order, counts):
    return tuple(max(0, wanted - count) for wanted, count in zip(order, counts))


def cheapest_of(mill):
    """Return a function that tells the least cost of an order, by trying all patterns for each roll."""
    cuts = [pattern for kind in range(len(mill.rolls)) for pattern in all_patterns(mill, kind)]

    @lru_cache(None)
    def cheapest(order):
        if not any(order):
            return 0
        return min(
            mill.rolls[kind][1] + cheapest(left(order, counts))
            for kind, counts in cuts if left(order, counts) != order
        )

    return cheapest


def told_plan(mill, order):
    """Return the told plan of point 10, roll by roll."""
    cheapest = cheapest_of(mill)
    known = all_maximal(mill)
    cuts = []
    while any(order):
        for kind, counts in known:
            rest = left(order, counts)
            if rest != order and cheapest(rest) + mill.rolls[kind][1] == cheapest(order):
                cuts.append((kind, counts))
                order = rest
                break
    return [(pattern, cuts.count(pattern)) for pattern in sorted(set(cuts))]


def told_row(mill, most, low, high):
    """Return the told row of patterns of point 14, the best one of all rows; None if there is none."""
    cuts = []
    for kind in range(len(mill.rolls)):
        for pattern in all_patterns(mill, kind):
            wide = sum(count * width for count, width in zip(pattern[1], mill.widths))
            if mill.rolls[kind][0] - wide <= most:
                cuts.append(pattern)
    found = []

    def go_on(first, row, room, cost):
        if all(top - free >= least for top, free, least in zip(high, room, low)):
            found.append((cost, row))
            return
        for at in range(first, len(cuts)):
            kind, counts = cuts[at]
            if all(count <= free for count, free in zip(counts, room)):
                rest = tuple(free - count for count, free in zip(counts, room))
                go_on(at, row + [cuts[at]], rest, cost + mill.rolls[kind][1])

    go_on(0, [], high, 0)
    return min(found)[1] if found else None


def ceiling(number):
    """Return the least integer that is at least a Fraction."""
    return -(-number.numerator // number.denominator)


def weigh(weights, counts):
    return sum(Fraction(*weight) * count for weight, count in zip(weights, counts))


def shows_cost(mill, order, least, paper):
    """Return whether a paper shows a cost, by the words of point 15."""
    numbers = {}
    for rest, number, _ in paper:
        if rest in numbers or len(rest) != len(mill.widths) or min(rest) < 0:
            return False
        numbers[rest] = number
    cuts = [pattern for kind in range(len(mill.rolls)) for pattern in all_patterns(mill, kind)]
    known = all_maximal(mill)
    for rest, number, weights in paper:
        if weights is not None:
            if len(weights) != len(mill.widths) or min(Fraction(*weight) for weight in weights) < 0:
                return False
            if any(weigh(weights, counts) > mill.rolls[kind][1] for kind, counts in cuts):
                return False
            if number > ceiling(weigh(weights, rest)):
                return False
        elif not any(rest):
            if number > 0:
                return False
        else:
            for kind, counts in known:
                behind = left(rest, counts)
                if behind != rest and (behind not in numbers or number > mill.rolls[kind][1] + numbers[behind]):
                    return False
    return order in numbers and numbers[order] >= least


def all_trees(pieces, width, height):
    """Return all trees of a sheet, in the order of point 20 as far as their first words go."""
    trees = [None]
    trees += [("piece", at) for at, piece in enumerate(pieces) if piece[0] <= width and piece[1] <= height]
    for at in range(1, width):
        parts = product(all_trees(pieces, at, height), all_trees(pieces, width - at, height))
        trees += [("across", at, one, other) for one, other in parts]
    for at in range(1, height):
        parts = product(all_trees(pieces, width, at), all_trees(pieces, width, height - at))
        trees += [("down", at, one, other) for one, other in parts]
    return trees


def pieces_of(tree):
    """Return the places of all pieces of a tree."""
    if tree is None:
        return []
    if tree[0] == "piece":
        return [tree[1]]
    return pieces_of(tree[2]) + pieces_of(tree[3])


def worth_of(pieces, tree):
    return sum(pieces[place][2] for place in pieces_of(tree))


def told_sheet(pieces):
    """Return a function that tells the most worth and the told tree of a sheet, by the words of point 20."""
    @lru_cache(None)
    def told(width, height):
        trees = [None]
        trees += [("piece", at) for at, piece in enumerate(pieces) if piece[0] <= width and piece[1] <= height]
        trees += [("across", at, told(at, height)[1], told(width - at, height)[1]) for at in range(1, width)]
        trees += [("down", at, told(width, at)[1], told(width, height - at)[1]) for at in range(1, height)]
        worths = [worth_of(pieces, tree) for tree in trees]
        return (max(worths), trees[worths.index(max(worths))])

    return told


def shows_worth(pieces, width, height, most, paper):
    """Return whether a sheet paper shows a worth, by the words of point 21."""
    worths = dict(paper)
    if len(worths) != len(paper) or worths.get((width, height), most + 1) > most:
        return False
    for (wide, high), worth in paper:
        cuts = [((at, high), (wide - at, high)) for at in range(1, wide)]
        cuts += [((wide, at), (wide, high - at)) for at in range(1, high)]
        if min(wide, high) < 1 or worth < 0:
            return False
        if any(piece[0] <= wide and piece[1] <= high and piece[2] > worth for piece in pieces):
            return False
        if any(one not in worths or other not in worths or worths[one] + worths[other] > worth for one, other in cuts):
            return False
    return True


def some_cuts(rng, many, widths):
    """Return a row of so many patterns, by chance, of which some may be equal."""
    cuts = []
    while len(cuts) < many:
        counts = tuple(rng.choice([0, 0, 0, 1, 1, 2, 3]) for _ in range(widths))
        if any(counts):
            cuts.append((rng.randint(0, 2), counts))
    return cuts


def given_by(cuts, places):
    return {at for place in places for at, count in enumerate(cuts[place][1]) if count > 0}


def stacks_at(cuts, done, place):
    """Return how many stacks are open, by the words of point 22."""
    behind = [other for other in range(len(cuts)) if other != place and other not in done]
    return len(given_by(cuts, [place]) | (given_by(cuts, done) & given_by(cuts, behind)))


def best_order(cuts, worst):
    """Return the tuple of the least number that a function gives an order, and the first order with it."""
    return min((worst(list(order)), list(order)) for order in permutations(range(len(cuts))))


def shows_stacks(cuts, least, paper):
    """Return whether a stack paper shows so many stacks, by the words of point 23."""
    numbers = dict(paper)
    if len(numbers) != len(paper) or numbers.get((), least - 1) < least:
        return False
    for places, number in paper:
        if any(not 0 <= place < len(cuts) for place in places) or sorted(set(places)) != list(places):
            return False
        others = [place for place in range(len(cuts)) if place not in places]
        if not others and number > 0:
            return False
        for place in others:
            behind = tuple(sorted(places + (place,)))
            if behind not in numbers or number > max(stacks_at(cuts, places, place), numbers[behind]):
                return False
    return True


def all_days(mill, most, orders):
    """Return the least cost and the first rows of maximal patterns, by trying all rows on all days; or None."""
    known = all_maximal(mill)
    rows = [list(row) for many in range(most + 1) for row in combinations_with_replacement(known, many)]
    found = []

    def go_on(day, stock, cost, told):
        if day == len(orders):
            found.append((cost, told))
            return
        for row in rows:
            now = [some + sum(counts[at] for _, counts in row) - orders[day][at] for at, some in enumerate(stock)]
            if min(now) >= 0:
                go_on(day + 1, now, cost + sum(mill.rolls[kind][1] for kind, _ in row), told + [row])

    go_on(0, [0] * len(mill.widths), 0, [])
    return min(found, default=None)

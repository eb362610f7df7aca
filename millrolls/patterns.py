"""Patterns: tuples (kind, counts) of a kind of rolls and how many of each width it is cut into."""

from millrolls.rows import dot


def used(mill, pattern):
    """Return the width of all pieces of a pattern."""
    return dot(pattern[1], mill.widths)


def trim(mill, pattern):
    """Return what is left of the roll, below 0 if the pieces are wider than the roll."""
    return mill.rolls[pattern[0]][0] - used(mill, pattern)


def is_pattern(mill, pattern):
    """Return whether a tuple of a number and a tuple of numbers is a pattern of a mill."""
    kind, counts = pattern
    # The kind and the number of counts come first: without them there is no trim.
    return (
        0 <= kind < len(mill.rolls)
        and len(counts) == len(mill.widths)
        and all([count >= 0 for count in counts])
        and 1 <= sum(counts) <= mill.knives
        and trim(mill, pattern) >= 0
    )


def is_maximal(mill, pattern):
    """Return whether no piece of any width can be added to a pattern."""
    # Where the narrowest width cannot be added, no other one can.
    return sum(pattern[1]) >= mill.knives or trim(mill, pattern) < min(mill.widths)


def patterns(mill, kind):
    """Return the list of all patterns of a kind of rolls, ascending."""
    begun = [((), mill.rolls[kind][0], mill.knives)]
    for width in mill.widths:
        # What was ascending stays so: each row is followed by its own longer ones alone.
        begun = [
            (counts + (many,), room - many * width, knives - many)
            for counts, room, knives in begun
            for many in range(min(room // width, knives) + 1)
        ]
    # The first one has no pieces at all.
    return [(kind, counts) for counts, room, knives in begun[1:]]


def maximal(mill):
    """Return the list of all maximal patterns, ascending."""
    return [
        pattern
        for kind in range(len(mill.rolls))
        for pattern in patterns(mill, kind)
        if is_maximal(mill, pattern)
    ]

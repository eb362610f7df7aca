"""Sheets that are cut through from side to side again and again, and papers that bound their worth."""


class Sheets:
    """The most worths and the told trees of all sheets up to a width and a height."""

    def __init__(self, pieces, width, height):
        self.pieces = list(pieces)
        # Each worth stands twice, so that the parts of each cut stand in one row: among the
        # heights of its width, and among the widths of its height.
        self.of_width = [[0] * (height + 1) for _ in range(width + 1)]
        self.of_height = [[0] * (width + 1) for _ in range(height + 1)]
        self.trees = {}
        for wide in range(1, width + 1):
            for high in range(1, height + 1):
                self.fill(wide, high)

    def fill(self, wide, high):
        """Write the most worth and the told tree of a sheet whose parts are all there."""
        ways = self.ways(wide, high)
        most = max(ways)
        self.of_width[wide][high] = most
        self.of_height[high][wide] = most
        self.trees[(wide, high)] = self.tree(wide, high, ways.index(most))

    def ways(self, wide, high):
        """Return the list of what the trees of a sheet are worth: None, the pieces, cuts across, cuts down."""
        # A piece that does not fit is no more worth than None, which comes first.
        ways = [0] + [piece[2] if fits(piece, wide, high) else 0 for piece in self.pieces]
        return ways + halves(self.of_height[high], wide) + halves(self.of_width[wide], high)

    def tree(self, wide, high, way):
        """Return the tree of the way at a place."""
        if way == 0:
            return None
        if way <= len(self.pieces):
            return ("piece", way - 1)
        at = way - len(self.pieces)
        if at <= wide // 2:
            return ("across", at, self.trees[(at, high)], self.trees[(wide - at, high)])
        at -= wide // 2
        return ("down", at, self.trees[(wide, at)], self.trees[(wide, high - at)])


def fits(piece, wide, high):
    """Return whether a piece fits into a sheet."""
    return piece[0] <= wide and piece[1] <= high


def halves(row, size):
    """Return the list of what two parts of a size are worth together, by a row of what each part is worth."""
    # A cut behind the middle has the same two parts as one ahead of it.
    return [row[at] + row[size - at] for at in range(1, size // 2 + 1)]


def best_sheet(pieces, width, height):
    """Return the tuple of the most worth of a sheet and its told tree."""
    sheets = Sheets(pieces, width, height)
    return (sheets.of_width[width][height], sheets.trees[(width, height)])


def tree_worth(pieces, width, height, tree):
    """Return the worth of a tree, None if it does not cut the sheet."""
    total = 0
    # Trees can be deeper than calls may go, so what is still to be looked at waits in a list.
    waiting = [(width, height, tree)]
    while waiting:
        wide, high, part = waiting.pop()
        if wide < 1 or high < 1:
            return None
        if part is not None and part[0] == "piece":
            if not 0 <= part[1] < len(pieces) or not fits(pieces[part[1]], wide, high):
                return None
            total += pieces[part[1]][2]
        elif part is not None:
            waiting.extend(cut_parts(wide, high, part))
    return total


def cut_parts(wide, high, tree):
    """Return the list of the two parts (width, height, tree) of a sheet that is cut."""
    word, at, first, second = tree
    if word == "across":
        return [(at, high, first), (wide - at, high, second)]
    return [(wide, at, first), (wide, high - at, second)]


def tree_counts(pieces, tree):
    """Return the list of how many of each piece a tree gives."""
    counts = [0 for _ in pieces]
    waiting = [tree]
    while waiting:
        part = waiting.pop()
        if part is not None and part[0] == "piece":
            counts[part[1]] += 1
        elif part is not None:
            waiting.extend([part[2], part[3]])
    return counts


def sheet_paper(pieces, width, height):
    """Return the told paper: all sheets up to a width and a height, ascending, with their most worths."""
    sheets = Sheets(pieces, width, height)
    return [
        ((wide, high), sheets.of_width[wide][high])
        for wide in range(1, width + 1)
        for high in range(1, height + 1)
    ]


def verify_sheet(pieces, width, height, most, paper):
    """Return whether a paper shows that no tree of a sheet is worth more than so much."""
    worths = {sheet: worth for sheet, worth in paper}
    # Where a sheet stands twice there are fewer worths than rows.
    if len(worths) < len(paper) or (width, height) not in worths or worths[(width, height)] > most:
        return False
    for (wide, high), worth in paper:
        if wide < 1 or high < 1 or worth < 0:
            return False
        if any([fits(piece, wide, high) and piece[2] > worth for piece in pieces]):
            return False
        if not all([are_within(worths, first, second, worth) for first, second in part_pairs(wide, high)]):
            return False
    return True


def part_pairs(wide, high):
    """Return the list of the two parts (width, height) of each cut of a sheet."""
    across = [((at, high), (wide - at, high)) for at in range(1, wide // 2 + 1)]
    return across + [((wide, at), (wide, high - at)) for at in range(1, high // 2 + 1)]


def are_within(worths, first, second, most):
    """Return whether two sheets have worths that come to at most so much."""
    return first in worths and second in worths and worths[first] + worths[second] <= most

"""Points 19 to 21: sheets, their trees, the told tree, and sheet papers."""

import random
import unittest
from copy import deepcopy
from itertools import product

from brute import all_trees, pieces_of, shows_worth, told_sheet, worth_of
from millrolls.sheets import best_sheet, sheet_paper, tree_counts, tree_worth, verify_sheet

PIECES = [(2, 1, 3), (1, 3, 4)]


def some_pieces(rng, most, widest):
    return [(rng.randint(1, widest), rng.randint(1, widest), rng.randint(0, 6)) for _ in range(rng.randint(0, most))]


class SheetCase(unittest.TestCase):
    def assert_told(self, pieces, width, height, worth, tree):
        before = list(pieces)
        told = best_sheet(pieces, width, height)
        self.assertIs(type(told), tuple)
        self.assertEqual(told, (worth, tree), (pieces, width, height))
        self.assertEqual(tree_worth(pieces, width, height, tree), worth)
        self.assertEqual(pieces, before)


class Best(SheetCase):
    def test_ordinary(self):
        self.assert_told(PIECES, 2, 1, 3, ("piece", 0))
        self.assert_told(PIECES, 1, 3, 4, ("piece", 1))
        self.assert_told(PIECES, 2, 2, 6, ("down", 1, ("piece", 0), ("piece", 0)))
        self.assert_told(PIECES, 2, 3, 9, ("down", 1, ("piece", 0), ("down", 1, ("piece", 0), ("piece", 0))))
        self.assert_told(
            PIECES, 3, 3, 13,
            ("across", 1, ("piece", 1), ("down", 1, ("piece", 0), ("down", 1, ("piece", 0), ("piece", 0)))),
        )

    def test_no_pieces(self):
        for width, height in ((1, 1), (1, 4), (4, 1), (3, 3)):
            self.assert_told([], width, height, 0, None)

    def test_pieces_worth_0(self):
        self.assert_told([(1, 1, 0)], 1, 1, 0, None)
        self.assert_told([(1, 1, 0), (2, 1, 0)], 3, 3, 0, None)
        self.assert_told([(1, 1, 0), (2, 2, 1)], 2, 2, 1, ("piece", 1))
        self.assert_told([(1, 1, 0), (1, 1, 1)], 1, 2, 2, ("down", 1, ("piece", 1), ("piece", 1)))

    def test_pieces_are_not_turned(self):
        self.assert_told([(2, 1, 5)], 1, 2, 0, None)
        self.assert_told([(2, 1, 5)], 2, 1, 5, ("piece", 0))
        self.assert_told([(2, 1, 5)], 1, 9, 0, None)
        self.assert_told([(1, 2, 5)], 9, 1, 0, None)
        self.assert_told([(3, 1, 5), (1, 3, 2)], 1, 3, 2, ("piece", 1))

    def test_pieces_that_do_not_fit(self):
        self.assert_told([(3, 3, 9)], 2, 9, 0, None)
        self.assert_told([(3, 3, 9)], 9, 2, 0, None)
        self.assert_told([(3, 3, 9), (1, 1, 1)], 2, 1, 2, ("across", 1, ("piece", 1), ("piece", 1)))

    def test_several_pieces_of_the_same_size(self):
        self.assert_told([(1, 1, 2), (1, 1, 3), (1, 1, 3)], 1, 1, 3, ("piece", 1))
        self.assert_told([(1, 1, 3), (1, 1, 3), (1, 1, 2)], 2, 1, 6, ("across", 1, ("piece", 0), ("piece", 0)))

    def test_none_ahead_of_all_others(self):
        self.assert_told([(1, 1, 0)], 2, 2, 0, None)
        # Where one part is worth nothing, nothing is cut out of it.
        self.assert_told([(2, 2, 4)], 4, 3, 8, ("across", 2, ("piece", 0), ("piece", 0)))
        self.assert_told([(1, 2, 1), (1, 1, 0)], 1, 3, 1, ("piece", 0))

    def test_pieces_ahead_of_cuts(self):
        self.assert_told([(1, 1, 1), (2, 1, 2)], 2, 1, 2, ("piece", 1))
        self.assert_told([(2, 1, 2), (1, 1, 1)], 2, 1, 2, ("piece", 0))
        self.assert_told([(1, 1, 1), (2, 2, 4), (2, 2, 4)], 2, 2, 4, ("piece", 1))
        self.assert_told([(1, 1, 1), (2, 2, 3)], 2, 2, 4, (
            "across", 1, ("down", 1, ("piece", 0), ("piece", 0)), ("down", 1, ("piece", 0), ("piece", 0))
        ))

    def test_cuts_across_ahead_of_cuts_down(self):
        self.assert_told([(2, 2, 1), (4, 1, 1)], 4, 4, 4, (
            "across", 2, ("down", 2, ("piece", 0), ("piece", 0)), ("down", 2, ("piece", 0), ("piece", 0))
        ))
        self.assert_told([(4, 1, 1)], 4, 2, 2, ("down", 1, ("piece", 0), ("piece", 0)))

    def test_the_first_place_of_a_cut(self):
        tree = ("piece", 0)
        for width in range(2, 9):
            tree = ("across", 1, ("piece", 0), tree)
            self.assert_told([(1, 1, 1)], width, 1, width, tree)
        tree = ("piece", 0)
        for height in range(2, 9):
            tree = ("down", 1, ("piece", 0), tree)
            self.assert_told([(1, 1, 1)], 1, height, height, tree)
        self.assert_told([(2, 1, 5), (3, 1, 7)], 5, 1, 12, ("across", 2, ("piece", 0), ("piece", 1)))
        self.assert_told([(2, 1, 5), (3, 1, 7)], 6, 1, 15, (
            "across", 2, ("piece", 0), ("across", 2, ("piece", 0), ("piece", 0))
        ))

    def test_beside_all_trees(self):
        rng = random.Random(81)
        for width, height, many in ((1, 1, 3), (2, 1, 3), (1, 3, 3), (2, 2, 2), (3, 1, 3), (3, 2, 1), (2, 3, 1)):
            for _ in range(8):
                pieces = some_pieces(rng, many, 3)
                trees = all_trees(pieces, width, height)
                most, told = best_sheet(pieces, width, height)
                self.assertEqual(most, max(worth_of(pieces, tree) for tree in trees))
                self.assertIn(told, trees)
                self.assertEqual(worth_of(pieces, told), most)

    def test_beside_the_told_trees_of_all_parts(self):
        rng = random.Random(82)
        for _ in range(60):
            pieces = some_pieces(rng, 5, 5)
            told = told_sheet(pieces)
            for width, height in product(range(1, 8), range(1, 7)):
                self.assert_told(pieces, width, height, *told(width, height))

    def test_great_sheets(self):
        self.assertEqual(best_sheet([(7, 5, 30), (11, 3, 28)], 77, 30)[0], 11 * 6 * 30)
        self.assertEqual(best_sheet([(7, 5, 35), (11, 3, 33)], 77, 30)[0], 77 * 30)


class Worth(unittest.TestCase):
    def assert_worth(self, worth, pieces, width, height, tree):
        before = deepcopy((pieces, tree))
        self.assertEqual(tree_worth(pieces, width, height, tree), worth)
        self.assertEqual((pieces, tree), before)

    def test_right_trees(self):
        self.assert_worth(0, PIECES, 1, 1, None)
        self.assert_worth(3, PIECES, 2, 1, ("piece", 0))
        self.assert_worth(3, PIECES, 9, 9, ("piece", 0))
        self.assert_worth(7, PIECES, 3, 3, ("across", 1, ("piece", 1), ("piece", 0)))
        self.assert_worth(7, PIECES, 3, 3, ("across", 2, ("piece", 0), ("piece", 1)))
        self.assert_worth(7, PIECES, 2, 4, ("down", 1, ("piece", 0), ("piece", 1)))
        self.assert_worth(0, PIECES, 2, 2, ("across", 1, None, ("down", 1, None, None)))
        self.assert_worth(0, [(1, 1, 0)], 1, 1, ("piece", 0))
        # Worth less than another tree, and right all the same.
        self.assert_worth(4, PIECES, 3, 3, ("piece", 1))

    def test_all_right_trees(self):
        rng = random.Random(83)
        for width, height in ((2, 2), (3, 1), (1, 3), (3, 2)):
            pieces = some_pieces(rng, 2, 2)
            for tree in all_trees(pieces, width, height):
                self.assertEqual(tree_worth(pieces, width, height, tree), worth_of(pieces, tree))
                counts = [pieces_of(tree).count(place) for place in range(len(pieces))]
                self.assertEqual(tree_counts(pieces, tree), counts)

    def test_a_piece_that_does_not_fit(self):
        for width, height in ((1, 1), (1, 2), (1, 9)):
            self.assert_worth(None, PIECES, width, height, ("piece", 0))
        for width, height in ((1, 1), (2, 2), (9, 2)):
            self.assert_worth(None, PIECES, width, height, ("piece", 1))
        self.assert_worth(4, PIECES, 1, 3, ("piece", 1))
        self.assert_worth(None, PIECES, 3, 1, ("piece", 1))

    def test_a_piece_that_does_not_fit_into_its_part(self):
        self.assert_worth(None, PIECES, 3, 3, ("across", 1, ("piece", 0), ("piece", 1)))
        self.assert_worth(None, PIECES, 3, 3, ("across", 2, ("piece", 0), ("piece", 0)))
        self.assert_worth(None, PIECES, 2, 4, ("down", 2, ("piece", 0), ("piece", 1)))
        self.assert_worth(None, PIECES, 2, 4, ("down", 1, ("piece", 1), ("piece", 0)))

    def test_a_place_without_a_piece(self):
        for place in (2, 3, -1):
            self.assert_worth(None, PIECES, 9, 9, ("piece", place))
        self.assert_worth(None, [], 9, 9, ("piece", 0))

    def test_empty_parts(self):
        for parts in product((None, ("piece", 0)), repeat=2):
            for at in (0, 4, 5, -1, 100):
                self.assert_worth(None, PIECES, 4, 9, ("across", at) + parts)
                self.assert_worth(None, PIECES, 9, 4, ("down", at) + parts)
        for at in (1, 2, 3):
            self.assert_worth(0, PIECES, 4, 1, ("across", at, None, None))
            self.assert_worth(0, PIECES, 1, 4, ("down", at, None, None))
        for at in (0, 1):
            self.assert_worth(None, PIECES, 1, 1, ("across", at, None, None))
            self.assert_worth(None, PIECES, 1, 1, ("down", at, None, None))

    def test_a_wrong_part_deep_within(self):
        for wrong, right in ((("piece", 1), ("piece", 0)), (("across", 0, None, None), None), (("down", 1, None, None), None)):
            for sides in product((0, 1), repeat=5):
                good, bad = right, wrong
                width, height = 2, 1
                for at, side in enumerate(sides):
                    word = "across" if at % 2 == 0 else "down"
                    size = width if word == "across" else height
                    good = (word, 1, ("piece", 0) if word == "down" else None, good) if side else (word, size, good, None)
                    bad = good[:3] + (bad,) if side else good[:2] + (bad, None)
                    width, height = (width + 1, height) if word == "across" else (width, height + 1)
                self.assertIsNotNone(tree_worth(PIECES, width, height, good))
                self.assert_worth(None, PIECES, width, height, bad)

    def test_deeper_than_calls_may_go(self):
        size = 30000
        tree = ("piece", 0)
        for _ in range(size - 1):
            tree = ("across", 1, ("piece", 0), tree)
        self.assertEqual(tree_worth([(1, 1, 2)], size, 1, tree), 2 * size)
        self.assertEqual(tree_counts([(1, 1, 2)], tree), [size])
        self.assertIsNone(tree_worth([(1, 1, 2)], size - 1, 1, tree))
        most, told = best_sheet([(1, 1, 2)], 1500, 1)
        self.assertEqual((most, tree_worth([(1, 1, 2)], 1500, 1, told)), (3000, 3000))


class Counts(unittest.TestCase):
    def test_ordinary(self):
        tree = ("across", 1, ("piece", 1), ("down", 1, ("piece", 0), ("down", 1, ("piece", 0), None)))
        self.assertEqual(tree_counts(PIECES, tree), [2, 1])
        self.assertEqual(tree_counts(PIECES + [(1, 1, 1)], tree), [2, 1, 0])
        self.assertEqual(tree_counts(PIECES, None), [0, 0])
        self.assertEqual(tree_counts(PIECES, ("piece", 1)), [0, 1])
        self.assertEqual(tree_counts([], None), [])

    def test_they_make_the_worth(self):
        rng = random.Random(84)
        for _ in range(60):
            pieces = some_pieces(rng, 4, 4)
            most, told = best_sheet(pieces, rng.randint(1, 9), rng.randint(1, 9))
            counts = tree_counts(pieces, told)
            self.assertIs(type(counts), list)
            self.assertEqual(sum(count * piece[2] for count, piece in zip(counts, pieces)), most)

    def test_the_list_is_new(self):
        tree_counts(PIECES, None).clear()
        self.assertEqual(tree_counts(PIECES, None), [0, 0])


class Papers(unittest.TestCase):
    def assert_shown(self, pieces, width, height, most, paper):
        """Hold that a paper shows that no tree is worth more than this, and not that none is worth this."""
        before = deepcopy((pieces, paper))
        self.assertIs(verify_sheet(pieces, width, height, most, paper), True)
        self.assertIs(verify_sheet(pieces, width, height, most + 1, paper), True)
        self.assertIs(verify_sheet(pieces, width, height, most - 1, paper), False)
        self.assertEqual((pieces, paper), before)

    def assert_shows_nothing(self, pieces, width, height, paper):
        for most in (0, 5, 10 ** 9):
            self.assertIs(verify_sheet(pieces, width, height, most, paper), False)

    def test_told_ordinary(self):
        self.assertEqual(sheet_paper(PIECES, 1, 1), [((1, 1), 0)])
        self.assertEqual(sheet_paper(PIECES, 3, 2), [
            ((1, 1), 0), ((1, 2), 0), ((2, 1), 3), ((2, 2), 6), ((3, 1), 3), ((3, 2), 6),
        ])
        self.assertEqual(sheet_paper([], 2, 2), [((1, 1), 0), ((1, 2), 0), ((2, 1), 0), ((2, 2), 0)])

    def test_told(self):
        rng = random.Random(85)
        for _ in range(60):
            pieces = some_pieces(rng, 5, 4)
            before = list(pieces)
            width, height = rng.randint(1, 6), rng.randint(1, 6)
            told = told_sheet(pieces)
            paper = sheet_paper(pieces, width, height)
            self.assertIs(type(paper), list)
            sheets = product(range(1, width + 1), range(1, height + 1))
            self.assertEqual(paper, [(sheet, told(*sheet)[0]) for sheet in sheets])
            self.assertEqual(pieces, before)
            for (wide, high), worth in paper:
                self.assert_shown(pieces, wide, high, worth, paper)

    def test_each_row_that_is_left_out(self):
        for width, height in ((1, 1), (3, 3), (4, 2)):
            paper = sheet_paper(PIECES, width, height)
            for at in range(len(paper)):
                self.assert_shows_nothing(PIECES, width, height, paper[:at] + paper[at + 1:])
        self.assert_shows_nothing(PIECES, 1, 1, [])

    def test_no_row_for_the_sheet(self):
        paper = sheet_paper(PIECES, 3, 3)
        for width, height in ((4, 3), (3, 4), (0, 1), (4, 1)):
            self.assert_shows_nothing(PIECES, width, height, paper)
        self.assert_shows_nothing(PIECES, 2, 3, sheet_paper(PIECES, 3, 2))

    def test_each_number_that_is_one_too_small(self):
        paper = sheet_paper(PIECES, 4, 4)
        for at, (sheet, worth) in enumerate(paper):
            self.assert_shows_nothing(PIECES, 4, 4, paper[:at] + [(sheet, worth - 1)] + paper[at + 1:])

    def test_a_number_below_0(self):
        self.assert_shows_nothing([], 1, 1, [((1, 1), -1)])
        self.assert_shown([], 1, 1, 0, [((1, 1), 0)])
        self.assert_shows_nothing([(2, 2, 1)], 1, 1, [((1, 1), -1)])
        self.assert_shows_nothing([], 2, 1, [((1, 1), -1), ((2, 1), 0)])

    def test_a_number_that_is_less_than_a_piece(self):
        self.assert_shown([(1, 1, 4), (1, 1, 6)], 1, 1, 6, [((1, 1), 6)])
        self.assert_shows_nothing([(1, 1, 4), (1, 1, 6)], 1, 1, [((1, 1), 5)])
        self.assert_shown([(1, 1, 6), (1, 2, 9)], 1, 1, 6, [((1, 1), 6)])

    def test_each_cut(self):
        rows = [((1, 1), 1), ((2, 1), 2), ((3, 1), 5)]
        self.assert_shown([], 3, 1, 5, rows)
        self.assert_shown([], 3, 1, 3, rows[:2] + [((3, 1), 3)])
        self.assert_shows_nothing([], 3, 1, rows[:2] + [((3, 1), 2)])
        turned = [((high, wide), worth) for (wide, high), worth in rows]
        self.assert_shown([], 1, 3, 5, turned)
        self.assert_shows_nothing([], 1, 3, turned[:2] + [((1, 3), 2)])
        self.assert_shows_nothing([], 3, 1, [rows[0], rows[2]])
        self.assert_shows_nothing([], 3, 1, rows[1:])
        self.assert_shows_nothing([], 3, 1, rows[:0:-1])
        self.assert_shows_nothing([], 1, 3, turned[:0:-1])

    def test_numbers_may_be_greater_than_needed(self):
        paper = sheet_paper(PIECES, 3, 3)
        self.assert_shown(PIECES, 3, 3, 20, paper[:-1] + [((3, 3), 20)])
        self.assertIs(verify_sheet(PIECES, 3, 3, 13, paper[:-1] + [((3, 3), 14)]), False)
        paper[0] = ((1, 1), 1)
        self.assert_shows_nothing(PIECES, 3, 3, paper)

    def test_a_sheet_that_stands_twice(self):
        paper = sheet_paper(PIECES, 3, 2)
        for sheet, worth in paper:
            for more in (0, 1, 5):
                self.assert_shows_nothing(PIECES, 3, 2, paper + [(sheet, worth + more)])
                self.assert_shows_nothing(PIECES, 3, 2, [(sheet, worth + more)] + paper)

    def test_rows_that_are_needed_nowhere(self):
        paper = sheet_paper(PIECES, 3, 2)
        self.assert_shown(PIECES, 2, 1, 3, paper)
        self.assert_shown(PIECES, 3, 2, 6, paper + [((4, 1), 6)])
        self.assert_shows_nothing(PIECES, 3, 2, paper + [((4, 1), 5)])
        self.assert_shows_nothing(PIECES, 3, 2, paper + [((9, 9), 100)])

    def test_sheets_that_are_none(self):
        for sheet in ((0, 1), (1, 0), (0, 0), (-1, 2), (2, -1)):
            self.assert_shows_nothing(PIECES, 3, 2, sheet_paper(PIECES, 3, 2) + [(sheet, 0)])
            self.assert_shows_nothing([], sheet[0], sheet[1], [(sheet, 0)])

    def test_the_order_of_the_rows_is_free(self):
        paper = sheet_paper(PIECES, 3, 3)
        paper.reverse()
        self.assert_shown(PIECES, 3, 3, 13, paper)

    def test_beside_the_words_of_the_document(self):
        rng = random.Random(86)
        told = {True: 0, False: 0}
        for _ in range(600):
            pieces = some_pieces(rng, 3, 3)
            width, height = rng.randint(1, 4), rng.randint(1, 4)
            paper = sheet_paper(pieces, width, height)
            for at in range(rng.randint(0, 2)):
                at = rng.randrange(len(paper))
                paper[at] = (paper[at][0], paper[at][1] + rng.choice([-1, 1, 1, 2, 5]))
            if rng.randint(0, 3) == 0:
                del paper[rng.randrange(len(paper))]
            most = best_sheet(pieces, width, height)[0] + rng.choice([-1, 0, 1, 5])
            shown = shows_worth(pieces, width, height, most, paper)
            self.assertIs(verify_sheet(pieces, width, height, most, paper), shown)
            told[shown] += 1
        self.assertTrue(min(told.values()) > 100, told)

    def test_the_paper_is_new(self):
        sheet_paper(PIECES, 2, 2).clear()
        self.assertEqual(len(sheet_paper(PIECES, 2, 2)), 4)


if __name__ == "__main__":
    unittest.main()

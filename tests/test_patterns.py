"""Point 8: patterns, their trim, and which of them are maximal."""

import random
import unittest

from brute import all_maximal, all_patterns, some_mill, some_mills, state
from millrolls.mills import Mill
from millrolls.patterns import is_maximal, is_pattern, maximal, patterns, trim, used

MILL = Mill([(100, 10), (60, 7)], [45, 36, 31], 4)


class UsedAndTrim(unittest.TestCase):
    def test_ordinary(self):
        for pattern, wide, rest in (
            ((0, (2, 0, 0)), 90, 10), ((0, (0, 1, 2)), 98, 2), ((0, (0, 0, 1)), 31, 69),
            ((1, (1, 0, 0)), 45, 15), ((1, (0, 0, 1)), 31, 29),
        ):
            self.assertEqual(used(MILL, pattern), wide)
            self.assertEqual(trim(MILL, pattern), rest)

    def test_no_trim(self):
        mill = Mill([(81, 3), (100, 4)], [45, 36, 19], 4)
        self.assertEqual(trim(mill, (0, (1, 1, 0))), 0)
        self.assertEqual(trim(mill, (1, (1, 1, 1))), 0)

    def test_below_0_where_the_pieces_are_wider_than_the_roll(self):
        self.assertEqual(used(MILL, (1, (1, 1, 0))), 81)
        self.assertEqual(trim(MILL, (1, (1, 1, 0))), -21)
        self.assertEqual(trim(MILL, (0, (2, 1, 0))), -26)
        self.assertEqual(trim(MILL, (0, (9, 9, 9))), 100 - 9 * 112)

    def test_more_pieces_than_the_knives_cut(self):
        mill = Mill([(100, 10)], [10], 4)
        self.assertEqual(used(mill, (0, (9,))), 90)
        self.assertEqual(trim(mill, (0, (9,))), 10)

    def test_no_pieces(self):
        self.assertEqual(used(MILL, (1, (0, 0, 0))), 0)
        self.assertEqual(trim(MILL, (1, (0, 0, 0))), 60)


class IsPattern(unittest.TestCase):
    def assert_pattern(self, wanted, mill, pattern):
        before = state(mill)
        self.assertIs(is_pattern(mill, pattern), wanted, pattern)
        self.assertEqual(state(mill), before)

    def test_ordinary(self):
        for counts in ((1, 0, 0), (2, 0, 0), (0, 2, 0), (0, 0, 3), (1, 1, 0), (1, 0, 1), (0, 1, 2)):
            self.assert_pattern(True, MILL, (0, counts))
        for counts in ((1, 0, 0), (0, 1, 0), (0, 0, 1)):
            self.assert_pattern(True, MILL, (1, counts))

    def test_kinds(self):
        for kind in (-3, -2, -1, 0, 1, 2, 3, 99):
            self.assert_pattern(kind in (0, 1), MILL, (kind, (1, 0, 0)))
        self.assert_pattern(False, Mill([(60, 7)], [45], 4), (1, (1,)))

    def test_counts_below_0(self):
        for counts in ((-1, 1, 1), (1, -1, 1), (1, 1, -1), (3, -1, 0), (0, 0, -1), (-1, -1, -1)):
            self.assert_pattern(False, MILL, (0, counts))

    def test_how_many_counts(self):
        for counts in ((), (1,), (1, 0), (1, 0, 0, 0), (1, 0, 0, 1), (0, 0, 0, 1)):
            self.assert_pattern(False, MILL, (0, counts))
        self.assert_pattern(True, MILL, (0, (1, 0, 0)))

    def test_counts_that_are_all_0(self):
        for kind in (0, 1):
            self.assert_pattern(False, MILL, (kind, (0, 0, 0)))

    def test_more_pieces_than_the_knives_cut(self):
        for knives in range(1, 13):
            mill = Mill([(400, 10)], [10, 11], knives)
            for one in range(15):
                for other in range(15):
                    self.assert_pattern(1 <= one + other <= knives, mill, (0, (one, other)))

    def test_pieces_that_are_wider_than_the_roll(self):
        for wide in range(75, 90):
            mill = Mill([(wide, 10), (80, 10)], [45, 36], 4)
            self.assert_pattern(wide >= 81, mill, (0, (1, 1)))
            self.assert_pattern(False, mill, (1, (1, 1)))
            self.assert_pattern(wide >= 75, mill, (0, (0, 2)))


class Lists(unittest.TestCase):
    def test_an_ordinary_mill(self):
        self.assertEqual(patterns(MILL, 1), [(1, (0, 0, 1)), (1, (0, 1, 0)), (1, (1, 0, 0))])
        self.assertEqual(maximal(MILL), [
            (0, (0, 0, 3)), (0, (0, 1, 2)), (0, (0, 2, 0)), (0, (1, 0, 1)), (0, (1, 1, 0)), (0, (2, 0, 0)),
            (1, (0, 0, 1)), (1, (0, 1, 0)), (1, (1, 0, 0)),
        ])

    def assert_lists(self, mill):
        before = state(mill)
        for kind in range(len(mill.rolls)):
            told = patterns(mill, kind)
            self.assertIs(type(told), list)
            self.assertEqual(told, all_patterns(mill, kind))
            self.assertEqual([type(pattern) for pattern in told], [tuple] * len(told))
            self.assertEqual([type(pattern[1]) for pattern in told], [tuple] * len(told))
        told = maximal(mill)
        self.assertIs(type(told), list)
        self.assertEqual(told, all_maximal(mill))
        self.assertEqual(state(mill), before)

    def test_beside_all_rows_of_counts_with_one_kind(self):
        for many in range(1, 5):
            for _, mill in some_mills(80 + many, 12, many, kinds=1, most_knives=5):
                self.assert_lists(mill)

    def test_beside_all_rows_of_counts_with_more_kinds(self):
        for many in range(1, 5):
            for kinds in (2, 3):
                for _, mill in some_mills(90 + many, 8, many, kinds=kinds, most_knives=5):
                    self.assert_lists(mill)

    def test_a_kind_that_no_width_fits(self):
        mill = Mill([(30, 1), (100, 9), (31, 2)], [45, 36, 31], 4)
        self.assertEqual(patterns(mill, 0), [])
        self.assertEqual(patterns(mill, 2), [(2, (0, 0, 1))])
        self.assert_lists(mill)

    def test_one_knife(self):
        mill = Mill([(100, 9), (40, 2)], [45, 36, 31], 1)
        self.assertEqual(maximal(mill), [
            (0, (0, 0, 1)), (0, (0, 1, 0)), (0, (1, 0, 0)), (1, (0, 0, 1)), (1, (0, 1, 0)),
        ])
        self.assert_lists(mill)

    def test_the_greatest_number_of_patterns(self):
        mill = Mill([(400, 9)], [33, 32, 31, 30, 29, 28], 12)
        told = patterns(mill, 0)
        # All ways to take 1 to 12 pieces of 6 widths: 18 over 6, less the one without any.
        self.assertEqual(len(told), 18563)
        self.assertEqual(told, sorted(told))
        self.assertEqual([pattern for pattern in told if sum(pattern[1]) == 12], maximal(mill))

    def test_the_lists_are_new(self):
        for told in (lambda: patterns(MILL, 0), lambda: maximal(MILL)):
            first = told()
            first.clear()
            self.assertTrue(told())


class IsMaximal(unittest.TestCase):
    def test_where_the_width_stops_it(self):
        for pattern, wanted in (
            ((0, (2, 0, 0)), True), ((0, (1, 0, 1)), True), ((0, (1, 0, 0)), False), ((0, (0, 1, 1)), False),
            ((0, (0, 0, 2)), False), ((0, (0, 2, 0)), True), ((1, (0, 0, 1)), True), ((1, (1, 0, 0)), True),
        ):
            self.assertIs(is_maximal(MILL, pattern), wanted, pattern)

    def test_the_trim_at_the_narrowest_width(self):
        for wide in range(60, 70):
            mill = Mill([(wide, 10)], [45, 20], 4)
            self.assertIs(is_maximal(mill, (0, (1, 0))), wide < 65)
            mill = Mill([(wide, 10)], [20, 45], 4)
            self.assertIs(is_maximal(mill, (0, (0, 1))), wide < 65)

    def test_where_the_knives_stop_it(self):
        for knives in range(1, 13):
            mill = Mill([(400, 10)], [10, 11], knives)
            for one in range(knives + 1):
                for other in range(knives + 1 - one):
                    if one + other > 0:
                        self.assertIs(is_maximal(mill, (0, (one, other))), one + other == knives)

    def test_beside_the_list_of_all(self):
        rng = random.Random(8)
        for _ in range(40):
            mill = some_mill(rng, rng.randint(1, 4), most_knives=4)
            found = all_maximal(mill)
            for kind in range(len(mill.rolls)):
                for pattern in all_patterns(mill, kind):
                    self.assertIs(is_maximal(mill, pattern), pattern in found)


if __name__ == "__main__":
    unittest.main()

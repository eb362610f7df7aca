"""Point 14: patterns within a trim, and plans between two orders."""

import random
import unittest

from brute import all_patterns, some_mill, some_mills, some_order, state, told_row
from millrolls.mills import Mill
from millrolls.patterns import is_maximal
from millrolls.plans import counted, is_plan, least_cost, plan_cost, plan_counts
from millrolls.ranges import ranged_plan, tight

MILL = Mill([(100, 10), (60, 7)], [45, 36, 31], 4)


class Tight(unittest.TestCase):
    def test_ordinary(self):
        self.assertEqual(tight(MILL, -1), [])
        self.assertEqual(tight(MILL, 0), [])
        self.assertEqual(tight(MILL, 1), [])
        self.assertEqual(tight(MILL, 2), [(0, (0, 1, 2))])
        self.assertEqual(tight(MILL, 10), [(0, (0, 0, 3)), (0, (0, 1, 2)), (0, (2, 0, 0))])
        self.assertEqual(tight(MILL, 15), [(0, (0, 0, 3)), (0, (0, 1, 2)), (0, (2, 0, 0)), (1, (1, 0, 0))])

    def test_no_trim(self):
        mill = Mill([(12, 3), (9, 2)], [6, 4, 3], 3)
        self.assertEqual(tight(mill, 0), [(0, (0, 3, 0)), (0, (1, 0, 2)), (0, (2, 0, 0)), (1, (0, 0, 3)), (1, (1, 0, 1))])

    def test_beside_all_rows_of_counts(self):
        for many in range(1, 5):
            for rng, mill in some_mills(400 + many, 15, many, most_knives=4):
                widest = max(width for width, _ in mill.rolls)
                before = state(mill)
                rests = {}
                for kind in range(len(mill.rolls)):
                    for pattern in all_patterns(mill, kind):
                        wide = sum(count * width for count, width in zip(pattern[1], mill.widths))
                        rests[pattern] = mill.rolls[kind][0] - wide
                for most in (0, 1, rng.randint(0, widest), widest - 1, widest, widest + 5):
                    told = tight(mill, most)
                    self.assertIs(type(told), list)
                    self.assertEqual(told, [pattern for pattern in rests if rests[pattern] <= most])
                    self.assertEqual(told, sorted(told))
                self.assertEqual(state(mill), before)

    def test_patterns_that_are_not_maximal_are_there(self):
        self.assertIn((0, (0, 0, 1)), tight(MILL, 100))
        self.assertNotIn((0, (0, 0, 1)), tight(MILL, 68))
        self.assertIn((0, (0, 0, 1)), tight(MILL, 69))

    def test_the_list_is_new(self):
        tight(MILL, 100).clear()
        self.assertTrue(tight(MILL, 100))


class RangedCase(unittest.TestCase):
    def assert_told(self, mill, most, low, high):
        before = state(mill)
        told = ranged_plan(mill, most, low, high)
        self.assertEqual(state(mill), before)
        row = told_row(mill, most, low, high)
        if row is None:
            self.assertIsNone(told, (before, most, low, high))
        else:
            self.assertEqual(told, counted(row), (before, most, low, high))
            self.assert_between(mill, most, low, high, told)
        return told

    def assert_between(self, mill, most, low, high, plan):
        self.assertIs(type(plan), list)
        self.assertIs(is_plan(mill, plan), True)
        given = plan_counts(mill, plan)
        self.assertTrue(all(less <= count <= more for less, count, more in zip(low, given, high)))
        within = tight(mill, most)
        self.assertTrue(all(pattern in within for pattern, _ in plan))


class Ranged(RangedCase):
    def test_ordinary(self):
        self.assertEqual(ranged_plan(MILL, 100, (1, 1, 1), (1, 1, 1)), [((0, (0, 1, 1)), 1), ((1, (1, 0, 0)), 1)])
        self.assertEqual(ranged_plan(MILL, 10, (2, 1, 2), (2, 1, 2)), [((0, (0, 1, 2)), 1), ((0, (2, 0, 0)), 1)])
        self.assertEqual(ranged_plan(MILL, 10, (1, 0, 0), (2, 0, 0)), [((0, (2, 0, 0)), 1)])
        self.assertIsNone(ranged_plan(MILL, 10, (1, 0, 0), (1, 9, 9)))

    def test_low_of_nothing(self):
        for most in (0, 10, 100):
            for high in ((0, 0, 0), (1, 0, 2), (99, 99, 99)):
                self.assertEqual(ranged_plan(MILL, most, (0, 0, 0), high), [])

    def test_no_pattern_within_the_trim(self):
        self.assertIsNone(ranged_plan(MILL, 0, (1, 0, 0), (99, 99, 99)))
        self.assertEqual(ranged_plan(MILL, 0, (0, 0, 0), (99, 99, 99)), [])

    def test_low_equal_to_high(self):
        for many, top in ((1, 9), (2, 4), (3, 2)):
            for rng, mill in some_mills(410 + many, 40, many, most_knives=4):
                order = some_order(rng, mill, top)
                self.assert_told(mill, rng.choice([3, 10, 40]), order, order)

    def test_ranges_of_small_mills(self):
        seen = {True: 0, False: 0}
        for many, top in ((1, 9), (2, 3), (3, 1)):
            for rng, mill in some_mills(420 + many, 80, many, most_knives=4):
                low = some_order(rng, mill, top)
                high = tuple(count + rng.randint(0, 2) for count in low)
                told = self.assert_told(mill, rng.choice([0, 1, 3, 10, 40]), low, high)
                seen[told is None] += 1
        self.assertTrue(min(seen.values()) > 20, seen)

    def test_a_pattern_that_gives_all_but_costs_too_much(self):
        mill = Mill([(41, 26), (49, 7), (55, 15)], [28, 5], 5)
        self.assertEqual(self.assert_told(mill, 15, (1, 0), (1, 2)), [((1, (1, 2)), 1)])

    def test_high_stops_what_would_be_cheaper(self):
        mill = Mill([(49, 21), (42, 7), (50, 25)], [8, 5, 17], 9)
        told = self.assert_told(mill, 1, (0, 2, 3), (1, 4, 6))
        self.assertEqual(told, [((0, (0, 3, 2)), 1), ((1, (1, 0, 2)), 1)])
        mill = Mill([(30, 28), (59, 15), (39, 6)], [26, 30, 24, 6], 3)
        self.assert_told(mill, 5, (2, 1, 2, 1), (4, 4, 3, 2))

    def test_equal_costs(self):
        for rng, mill in some_mills(430, 80, 2, kinds=3, most_knives=3):
            same = Mill([(width, 5) for width, _ in mill.rolls], mill.widths, mill.knives)
            low = some_order(rng, same, 3)
            high = tuple(count + rng.randint(0, 3) for count in low)
            self.assert_told(same, rng.choice([3, 10, 40]), low, high)

    def test_pieces_that_fill_rolls_in_many_ways(self):
        for rolls in ([(12, 4)], [(12, 4), (6, 2)], [(12, 4), (9, 3), (6, 2)]):
            mill = Mill(rolls, [6, 4, 3], 4)
            rng = random.Random(44)
            for _ in range(12):
                low = some_order(rng, mill, 2)
                high = tuple(count + rng.randint(0, 2) for count in low)
                for most in (0, 1, 2, 12):
                    self.assert_told(mill, most, low, high)

    def test_the_trim_is_what_each_pattern_has(self):
        mill = Mill([(10, 1)], [5, 4, 3], 3)
        # Two rolls with a trim of 1 are within 1, although their trims are 2 in all.
        self.assertEqual(ranged_plan(mill, 1, (2, 2, 0), (2, 2, 0)), [((0, (1, 1, 0)), 2)])
        self.assertIsNone(ranged_plan(mill, 0, (1, 1, 0), (1, 1, 0)))

    def test_patterns_that_are_not_maximal(self):
        mill = Mill([(10, 1)], [5, 2], 4)
        told = ranged_plan(mill, 5, (1, 0), (1, 0))
        self.assertEqual(told, [((0, (1, 0)), 1)])
        self.assertFalse(is_maximal(mill, told[0][0]))
        self.assertIsNone(ranged_plan(mill, 4, (1, 0), (1, 0)))
        self.assertEqual(ranged_plan(mill, 4, (1, 0), (2, 0)), [((0, (2, 0)), 1)])

    def test_no_plan_gives_the_right_remainder(self):
        # All patterns without trim have an even number of pieces.
        mill = Mill([(10, 1)], [5], 2)
        for count in range(0, 100):
            told = ranged_plan(mill, 0, (count,), (count,))
            self.assertEqual(told, [((0, (2,)), count // 2)] * (count > 0) if count % 2 == 0 else None)
        for count in range(0, 99):
            self.assertIsNotNone(ranged_plan(mill, 0, (count,), (count + 1,)))

    def test_great_orders(self):
        rng = random.Random(45)
        found = 0
        for _ in range(40):
            mill = some_mill(rng, rng.randint(1, 4), widest=60)
            low = some_order(rng, mill, 95)
            high = tuple(min(99, count + rng.randint(0, 6)) for count in low)
            most = rng.choice([2, 5, 20])
            told = ranged_plan(mill, most, low, high)
            if told is not None:
                found += 1
                self.assert_between(mill, most, low, high, told)
        self.assertTrue(10 < found < 40, found)

    def test_a_wide_range_costs_what_low_costs(self):
        # With any trim, and nothing that is too much, the plan is a cheapest one of all.
        for rng, mill in some_mills(440, 25, 3, most_knives=4):
            low = some_order(rng, mill, 9)
            told = ranged_plan(mill, 400, low, (99, 99, 99))
            self.assertEqual(plan_cost(mill, told), least_cost(mill, low))

    def test_the_plan_is_new(self):
        first = ranged_plan(MILL, 100, (1, 1, 1), (1, 1, 1))
        first.clear()
        self.assertTrue(ranged_plan(MILL, 100, (1, 1, 1), (1, 1, 1)))


if __name__ == "__main__":
    unittest.main()

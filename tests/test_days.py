"""Point 25: plans over days with left-over pieces."""

import random
import unittest
from copy import deepcopy

from brute import all_days, all_maximal, some_mill, some_order, state
from millrolls.days import least_days, run_days
from millrolls.mills import Mill
from millrolls.plans import counted, is_plan, least_cost, least_plan, plan_cost

# The maximal patterns are (0, (0, 3)), (0, (1, 1)), (0, (2, 0)) and (1, (0, 1)), (1, (1, 0)).
MILL = Mill([(10, 4), (5, 3)], [5, 3], 3)


class DaysCase(unittest.TestCase):
    def told(self, mill, most, orders):
        before = (state(mill), list(orders))
        told = least_days(mill, most, orders)
        self.assertEqual((state(mill), orders), before)
        if told is not None:
            self.assert_plans(mill, most, orders, told)
        return told

    def assert_plans(self, mill, most, orders, told):
        cost, plans = told
        self.assertEqual((type(told), type(plans), len(plans)), (tuple, list, len(orders)))
        known = all_maximal(mill)
        for plan in plans:
            self.assertIs(type(plan), list)
            self.assertIs(is_plan(mill, plan), True)
            self.assertTrue(all(pattern in known for pattern, _ in plan))
            self.assertLessEqual(sum(times for _, times in plan), most)
        self.assertNotIn(None, run_days(mill, orders, plans))
        self.assertEqual(sum(plan_cost(mill, plan) for plan in plans), cost)

    def assert_told(self, mill, most, orders):
        best = all_days(mill, most, orders)
        wanted = best and (best[0], [counted(row) for row in best[1]])
        self.assertEqual(self.told(mill, most, orders), wanted, (state(mill), most, orders))
        return wanted


class Least(DaysCase):
    def test_ordinary(self):
        self.assertEqual(self.told(MILL, 2, [(1, 0), (1, 0)]), (4, [[((0, (2, 0)), 1)], []]))
        # What is cut on the first day is compared first: a roll of kind 0 comes ahead of one of kind 1.
        self.assertEqual(self.told(MILL, 2, [(1, 0), (0, 3)]), (7, [[((0, (0, 3)), 1), ((1, (1, 0)), 1)], []]))
        self.assertEqual(self.told(MILL, 1, [(1, 0), (0, 3)]), (7, [[((1, (1, 0)), 1)], [((0, (0, 3)), 1)]]))
        self.assertEqual(self.told(MILL, 1, [(2, 0), (1, 0)]), (7, [[((0, (2, 0)), 1)], [((1, (1, 0)), 1)]]))

    def test_no_day(self):
        for most in (0, 1, 5):
            self.assertEqual(self.told(MILL, most, []), (0, []))

    def test_days_on_which_nothing_is_cut(self):
        self.assertEqual(self.told(MILL, 0, [(0, 0), (0, 0)]), (0, [[], []]))
        self.assertEqual(self.told(MILL, 3, [(0, 0), (0, 3), (0, 0)]), (4, [[], [((0, (0, 3)), 1)], []]))

    def test_as_late_as_possible_where_nothing_else_tells(self):
        # Nothing comes ahead of all other rows, so what can wait waits.
        self.assertEqual(self.told(MILL, 2, [(0, 0), (0, 0), (2, 3)]), (8, [
            [], [], [((0, (0, 3)), 1), ((0, (2, 0)), 1)],
        ]))
        self.assertEqual(self.told(MILL, 1, [(0, 0), (0, 0), (2, 3)]), (8, [
            [], [((0, (0, 3)), 1)], [((0, (2, 0)), 1)],
        ]))

    def test_days_that_cut_ahead(self):
        self.assertEqual(self.told(MILL, 1, [(0, 0), (3, 0)]), (7, [[((0, (2, 0)), 1)], [((1, (1, 0)), 1)]]))
        self.assertEqual(self.told(MILL, 1, [(0, 0), (4, 0)]), (8, [[((0, (2, 0)), 1)]] * 2))
        # One roll for both days costs less than one for each.
        self.assertEqual(self.told(MILL, 9, [(0, 1), (0, 2)]), (4, [[((0, (0, 3)), 1)], []]))

    def test_no_plans(self):
        self.assertIsNone(self.told(MILL, 0, [(0, 1)]))
        self.assertIsNone(self.told(MILL, 1, [(3, 0), (0, 0)]))
        self.assertIsNone(self.told(MILL, 1, [(3, 0), (0, 0), (0, 0)]))
        self.assertIsNone(self.told(MILL, 1, [(0, 0), (2, 4), (0, 0)]))
        self.assertIsNotNone(self.told(MILL, 1, [(0, 0), (2, 3)]))
        self.assertIsNone(self.told(MILL, 0, [(0, 0), (0, 0), (1, 0)]))

    def test_dear_rolls_where_few_can_be_cut(self):
        mill = Mill([(10, 100), (5, 1)], [5], 3)
        self.assertEqual(self.told(mill, 4, [(4,)]), (4, [[((1, (1,)), 4)]]))
        self.assertEqual(self.told(mill, 3, [(4,)]), (102, [[((0, (2,)), 1), ((1, (1,)), 2)]]))
        self.assertEqual(self.told(mill, 2, [(4,)]), (200, [[((0, (2,)), 2)]]))
        self.assertIsNone(self.told(mill, 1, [(4,)]))
        self.assertEqual(self.told(mill, 2, [(1,), (3,)]), (4, [[((1, (1,)), 2)]] * 2))
        self.assertEqual(self.told(mill, 2, [(0,), (1,), (3,)]), (4, [[], [((1, (1,)), 2)], [((1, (1,)), 2)]]))

    def test_a_shorter_row_comes_first(self):
        # The first day's row begins that of another plan: it is told, and the rest waits.
        mill = Mill([(10, 4)], [10], 1)
        piece = (0, (1,))
        self.assertEqual(self.told(mill, 3, [(1,), (2,)]), (12, [[(piece, 1)], [(piece, 2)]]))
        self.assertEqual(self.told(mill, 2, [(1,), (3,)]), (16, [[(piece, 2)], [(piece, 2)]]))
        self.assertEqual(self.told(mill, 2, [(1,), (1,), (3,)]), (20, [[(piece, 1)], [(piece, 2)], [(piece, 2)]]))

    def test_of_one_day_the_row_of_patterns(self):
        # Of one day all rows cost the same and are compared as rows.
        mill = Mill([(12, 4)], [6, 4, 3], 4)
        for order in ((1, 1, 0), (2, 1, 1), (1, 1, 2), (0, 2, 2), (3, 0, 1)):
            self.assert_told(mill, 3, [order])

    def test_beside_all_rows_on_all_days(self):
        rng = random.Random(111)
        seen = {True: 0, False: 0}
        for days, most, widths, top, many in (
            (1, 3, 3, 3, 60), (1, 4, 2, 4, 60), (2, 1, 3, 2, 60), (2, 2, 2, 2, 60), (2, 2, 3, 2, 40),
            (2, 3, 2, 3, 30), (3, 1, 2, 2, 60), (3, 2, 1, 3, 30), (3, 2, 2, 2, 30), (3, 1, 3, 1, 40),
        ):
            for _ in range(many):
                mill = self.some_rich_mill(rng, widths)
                orders = [some_order(rng, mill, top) for _ in range(days)]
                seen[self.assert_told(mill, most, orders) is None] += 1
        self.assertTrue(min(seen.values()) > 50, seen)

    def some_rich_mill(self, rng, widths):
        """Return a mill of 2 to 5 maximal patterns, in half of the cases of rolls that cost the same."""
        while True:
            mill = some_mill(rng, widths, widest=30, most_knives=4)
            if rng.randint(0, 1):
                mill = Mill([(width, 3) for width, _ in mill.rolls], mill.widths, mill.knives)
            if 2 <= len(all_maximal(mill)) <= 5:
                return mill

    def test_days_without_orders_in_between(self):
        rng = random.Random(112)
        for _ in range(60):
            mill = self.some_rich_mill(rng, 2)
            orders = [some_order(rng, mill, 2), (0, 0), some_order(rng, mill, 2)]
            rng.shuffle(orders)
            self.assert_told(mill, rng.randint(0, 2), orders)

    def test_one_day_with_room_for_all_is_a_cheapest_plan(self):
        rng = random.Random(113)
        for _ in range(40):
            mill = some_mill(rng, rng.randint(1, 4))
            order = some_order(rng, mill, 9)
            cost, plans = self.told(mill, 400, [order])
            self.assertEqual(cost, least_cost(mill, order))
            self.assertEqual(plans, [least_plan(mill, order)])

    def test_great_orders(self):
        rng = random.Random(114)
        plans = 0
        for _ in range(20):
            mill = some_mill(rng, rng.randint(1, 4), widest=60)
            orders = [some_order(rng, mill, 12) for _ in range(rng.randint(2, 4))]
            told = self.told(mill, rng.randint(4, 12), orders)
            plans += told is not None
            total = tuple(sum(order[at] for order in orders) for at in range(len(mill.widths)))
            if told is not None:
                self.assertGreaterEqual(told[0], least_cost(mill, total))
        self.assertTrue(5 < plans < 20, plans)

    def test_the_plans_are_new(self):
        first = least_days(MILL, 2, [(1, 0), (1, 0)])
        copy = deepcopy(first)
        for plan in first[1]:
            plan.clear()
        first[1].clear()
        self.assertEqual(least_days(MILL, 2, [(1, 0), (1, 0)]), copy)
        again = least_days(MILL, 1, [(0, 0), (4, 0)])[1]
        self.assertIsNot(again[0], again[1])


class Run(unittest.TestCase):
    def assert_run(self, orders, plans, wanted):
        before = (state(MILL), deepcopy(orders), deepcopy(plans))
        told = run_days(MILL, orders, plans)
        self.assertIs(type(told), list)
        self.assertEqual(told, wanted)
        self.assertEqual((state(MILL), orders, plans), before)

    def test_what_is_left_over(self):
        self.assert_run([(1, 0), (1, 0)], [[((0, (2, 0)), 1)], []], [(1, 0), (0, 0)])
        self.assert_run([(1, 2), (3, 0)], [[((0, (2, 0)), 2), ((0, (0, 3)), 1)], []], [(3, 1), (0, 1)])
        self.assert_run([(0, 0), (0, 0)], [[], [((1, (0, 1)), 3)]], [(0, 0), (0, 3)])
        self.assert_run([(0, 1)], [[((0, (1, 1)), 1)]], [(1, 0)])

    def test_no_day(self):
        self.assert_run([], [], [])

    def test_nothing_is_left_over(self):
        self.assert_run([(0, 0)], [[]], [(0, 0)])
        self.assert_run([(2, 0), (0, 3)], [[((0, (2, 0)), 1)], [((0, (0, 3)), 1)]], [(0, 0), (0, 0)])

    def test_too_little(self):
        self.assert_run([(1, 0)], [[]], [None])
        self.assert_run([(1, 1)], [[((0, (2, 0)), 5)]], [None])
        self.assert_run([(1, 0), (1, 0), (1, 0)], [[((0, (2, 0)), 1)], [], []], [(1, 0), (0, 0), None])

    def test_too_little_first_and_enough_later(self):
        enough = [((0, (2, 0)), 9)]
        self.assert_run([(1, 0), (0, 0)], [[], enough], [None, None])
        self.assert_run([(0, 0), (1, 0), (0, 0), (2, 0)], [[], [], enough, enough], [(0, 0), None, None, None])
        self.assert_run([(0, 0), (0, 1), (0, 0)], [enough, enough, [((0, (0, 3)), 9)]], [(18, 0), None, None])

    def test_patterns_that_are_not_maximal(self):
        self.assert_run([(1, 0)], [[((0, (1, 0)), 2)]], [(1, 0)])

    def test_the_list_is_new(self):
        run_days(MILL, [(0, 0)], [[]]).clear()
        self.assertEqual(run_days(MILL, [(0, 0)], [[]]), [(0, 0)])


if __name__ == "__main__":
    unittest.main()

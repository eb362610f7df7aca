"""Points 9 and 10: plans, what they give and cost, the least cost of an order, and the told plan."""

import random
import unittest

from brute import cheapest_of, some_mills, some_order, state, told_plan
from millrolls.mills import Mill
from millrolls.patterns import maximal, patterns
from millrolls.plans import (
    counted, is_plan, least_cost, least_plan, meets, plan_cost, plan_counts, plan_trim,
)

MILL = Mill([(100, 10), (60, 7)], [45, 36, 31], 4)
PLAN = [((0, (0, 1, 2)), 3), ((0, (2, 0, 0)), 1), ((1, (0, 0, 1)), 20)]


class Sums(unittest.TestCase):
    def test_of_a_plan(self):
        counts = plan_counts(MILL, PLAN)
        self.assertIs(type(counts), tuple)
        self.assertEqual(counts, (2, 3, 26))
        self.assertEqual(plan_cost(MILL, PLAN), 3 * 10 + 10 + 20 * 7)
        self.assertEqual(plan_trim(MILL, PLAN), 3 * 2 + 10 + 20 * 29)

    def test_of_the_empty_plan(self):
        for many in range(1, 7):
            mill = Mill([(100, 10)], list(range(20, 20 + many)), 4)
            self.assertEqual(plan_counts(mill, []), (0,) * many)
        self.assertEqual(plan_cost(MILL, []), 0)
        self.assertEqual(plan_trim(MILL, []), 0)

    def test_roll_by_roll(self):
        rng = random.Random(9)
        for _, mill in some_mills(9, 30, 3):
            known = [pattern for kind in range(len(mill.rolls)) for pattern in patterns(mill, kind)]
            cuts = sorted(rng.sample(known, min(len(known), 4)))
            plan = [(pattern, rng.randint(1, 300)) for pattern in cuts]
            before = (state(mill), list(plan))
            rolls = [pattern for pattern, times in plan for _ in range(times)]
            self.assertEqual(plan_counts(mill, plan), tuple(sum(cut[1][at] for cut in rolls) for at in range(3)))
            self.assertEqual(plan_cost(mill, plan), sum(mill.rolls[kind][1] for kind, _ in rolls))
            trims = [mill.rolls[kind][0] - sum(c * w for c, w in zip(counts, mill.widths)) for kind, counts in rolls]
            self.assertEqual(plan_trim(mill, plan), sum(trims))
            self.assertIs(is_plan(mill, plan), True)
            self.assertIs(meets(mill, plan_counts(mill, plan), plan), True)
            self.assertEqual(counted(rolls), plan)
            self.assertEqual((state(mill), plan), before)


class IsPlan(unittest.TestCase):
    def test_plans(self):
        for plan in ([], PLAN, PLAN[:1], PLAN[1:], [((0, (0, 0, 1)), 1), ((0, (0, 0, 2)), 99)], [PLAN[0], PLAN[2]]):
            self.assertIs(is_plan(MILL, plan), True, plan)

    def test_not_ascending(self):
        self.assertIs(is_plan(MILL, PLAN[::-1]), False)
        self.assertIs(is_plan(MILL, [PLAN[1], PLAN[0], PLAN[2]]), False)
        self.assertIs(is_plan(MILL, [PLAN[0], PLAN[2], PLAN[1]]), False)
        # The times do not make up for it.
        self.assertIs(is_plan(MILL, [((0, (2, 0, 0)), 1), ((0, (0, 1, 2)), 2)]), False)

    def test_a_pattern_twice(self):
        self.assertIs(is_plan(MILL, [PLAN[0], PLAN[0]]), False)
        self.assertIs(is_plan(MILL, [((0, (0, 1, 2)), 1), ((0, (0, 1, 2)), 2)]), False)
        self.assertIs(is_plan(MILL, PLAN + [PLAN[2]]), False)

    def test_times(self):
        for place in range(3):
            for times in (-1, 0, 1, 2, 1000):
                plan = list(PLAN)
                plan[place] = (plan[place][0], times)
                self.assertIs(is_plan(MILL, plan), times >= 1)

    def test_what_is_no_pattern(self):
        for pattern in (
            (0, (0, 0, 0)), (0, (3, 0, 0)), (2, (1, 0, 0)), (-1, (1, 0, 0)), (0, (1, 0)), (0, (1, 0, 0, 0)),
            (0, (-1, 1, 1)), (1, (0, 1, 1)), (0, ()),
        ):
            self.assertIs(is_plan(MILL, [(pattern, 1)]), False, pattern)
            self.assertIs(is_plan(MILL, sorted(PLAN + [(pattern, 1)])), False, pattern)
        knives = Mill([(100, 10)], [10], 4)
        self.assertIs(is_plan(knives, [((0, (4,)), 1)]), True)
        self.assertIs(is_plan(knives, [((0, (5,)), 1)]), False)

    def test_nothing_that_is_passed_in_changes(self):
        plan = PLAN[::-1]
        is_plan(MILL, plan)
        meets(MILL, (1, 1, 1), plan)
        self.assertEqual(plan, PLAN[::-1])


class Meets(unittest.TestCase):
    def test_at_what_the_plan_gives_and_beside_it(self):
        self.assertIs(meets(MILL, (2, 3, 26), PLAN), True)
        for at in range(3):
            for more in (-1, 0, 1):
                order = [2, 3, 26]
                order[at] += more
                self.assertIs(meets(MILL, tuple(order), PLAN), more <= 0, order)
        self.assertIs(meets(MILL, (0, 0, 0), PLAN), True)
        self.assertIs(meets(MILL, (0, 4, 0), PLAN), False)

    def test_the_empty_plan(self):
        self.assertIs(meets(MILL, (0, 0, 0), []), True)
        for order in ((1, 0, 0), (0, 1, 0), (0, 0, 1)):
            self.assertIs(meets(MILL, order, []), False)

    def test_a_list_that_is_no_plan(self):
        for plan in (PLAN[::-1], [PLAN[0], PLAN[0]], [((0, (9, 9, 9)), 9)], [((0, (1, 0, 0)), 0)], [((5, (1, 1, 0)), 1)]):
            self.assertIs(meets(MILL, (0, 0, 0), plan), False, plan)


class Counted(unittest.TestCase):
    def test_an_empty_list(self):
        self.assertEqual(counted([]), [])

    def test_equal_patterns(self):
        self.assertEqual(counted([(0, (2, 0, 0))]), [((0, (2, 0, 0)), 1)])
        self.assertEqual(counted([(0, (2, 0, 0))] * 7), [((0, (2, 0, 0)), 7)])

    def test_several_in_any_order(self):
        cuts = [pattern for pattern, times in PLAN for _ in range(times)]
        rng = random.Random(10)
        for _ in range(20):
            rng.shuffle(cuts)
            before = list(cuts)
            told = counted(cuts)
            self.assertIs(type(told), list)
            self.assertEqual(told, PLAN)
            self.assertEqual([type(pair) for pair in told], [tuple] * 3)
            self.assertEqual(cuts, before)


class LeastCost(unittest.TestCase):
    def assert_least(self, mill, order):
        before = state(mill)
        plan = least_plan(mill, order)
        self.assertEqual(plan, told_plan(mill, order), (before, order))
        self.assertEqual(least_cost(mill, order), cheapest_of(mill)(order), (before, order))
        self.assertEqual(least_cost(mill, order), plan_cost(mill, plan))
        self.assertIs(meets(mill, order, plan), True)
        self.assertEqual(state(mill), before)

    def test_ordinary(self):
        self.assertEqual(least_cost(MILL, (2, 0, 0)), 10)
        self.assertEqual(least_plan(MILL, (2, 0, 0)), [((0, (2, 0, 0)), 1)])
        self.assertEqual(least_cost(MILL, (1, 0, 0)), 7)
        self.assertEqual(least_plan(MILL, (1, 0, 0)), [((1, (1, 0, 0)), 1)])
        self.assertEqual(least_cost(MILL, (1, 1, 1)), 17)
        self.assertEqual(least_plan(MILL, (1, 1, 1)), [((0, (0, 1, 2)), 1), ((1, (1, 0, 0)), 1)])

    def test_nothing_ordered(self):
        for many in range(1, 7):
            mill = Mill([(100, 10)], list(range(20, 20 + many)), 4)
            self.assertEqual(least_cost(mill, (0,) * many), 0)
            self.assertEqual(least_plan(mill, (0,) * many), [])

    def test_small_mills_of_one_kind(self):
        for many, most in ((1, 9), (2, 5), (3, 3), (4, 2)):
            for rng, mill in some_mills(100 + many, 25, many, kinds=1):
                self.assert_least(mill, some_order(rng, mill, most))

    def test_small_mills_of_more_kinds(self):
        for many, most in ((1, 9), (2, 5), (3, 3), (4, 2)):
            for kinds in (2, 3):
                for rng, mill in some_mills(110 + many, 25, many, kinds=kinds):
                    self.assert_least(mill, some_order(rng, mill, most))

    def test_equal_costs(self):
        for rng, mill in some_mills(120, 60, 3, kinds=3):
            same = Mill([(width, 5) for width, _ in mill.rolls], mill.widths, mill.knives)
            self.assert_least(same, some_order(rng, same, 3))
            alike = Mill([mill.rolls[0]] * 3, [width // 2 + 1 for width in mill.widths], mill.knives)
            if len(set(alike.widths)) == 3 and max(alike.widths) <= mill.rolls[0][0]:
                self.assert_least(alike, some_order(rng, alike, 3))

    def test_pieces_that_fill_rolls_in_many_ways(self):
        for knives in (2, 3, 6):
            for rolls in ([(12, 4)], [(12, 4), (6, 2)], [(12, 4), (9, 3), (6, 2)]):
                mill = Mill(rolls, [2, 3, 4, 6], knives)
                rng = random.Random(knives)
                for _ in range(6):
                    self.assert_least(mill, some_order(rng, mill, 3))

    def test_where_the_plan_costs_more_than_any_weights_tell(self):
        # Three rolls for two pieces of each width, although the fractions need less than two and a half.
        mill = Mill([(30, 1)], [15, 10, 6], 5)
        for order in ((1, 1, 1), (1, 2, 4), (3, 2, 4), (1, 2, 1), (5, 5, 4)):
            self.assert_least(mill, order)

    def test_a_kind_that_fits_no_width_and_one_that_costs_too_much(self):
        mill = Mill([(5, 1), (50, 100), (50, 3)], [20, 30], 2)
        self.assertEqual(least_plan(mill, (1, 1)), [((2, (1, 1)), 1)])
        for order in ((3, 1), (1, 3), (2, 2), (0, 3)):
            self.assert_least(mill, order)

    def test_the_first_pattern_may_give_more_than_is_ordered(self):
        mill = Mill([(10, 1)], [5, 4], 2)
        self.assertEqual(least_plan(mill, (1, 0)), [((0, (1, 1)), 1)])
        self.assertEqual(least_plan(mill, (0, 1)), [((0, (0, 2)), 1)])
        self.assertEqual(least_plan(mill, (2, 1)), [((0, (0, 2)), 1), ((0, (2, 0)), 1)])
        self.assertEqual(least_plan(mill, (0, 3)), [((0, (0, 2)), 2)])

    def test_great_orders_of_one_and_two_widths(self):
        for rng, mill in some_mills(130, 12, 1, widest=100):
            self.assert_least(mill, some_order(rng, mill, 99))
        for rng, mill in some_mills(131, 8, 2, widest=60):
            order = some_order(rng, mill, 25)
            self.assertEqual(least_cost(mill, order), cheapest_of(mill)(order), (state(mill), order))

    def test_the_greatest_orders(self):
        # The area, the knives or the count alone tell that nothing is cheaper.
        self.assertEqual(least_cost(Mill([(400, 3)], [100, 50, 25], 12), (99, 99, 99)), 44 * 3)
        self.assertEqual(least_cost(Mill([(400, 1)], [6, 5, 4, 3, 2, 1], 12), (99,) * 6), 50)
        self.assertEqual(least_cost(Mill([(400, 100), (399, 99)], [400, 399], 12), (99, 99)), 99 * 199)
        plan = least_plan(Mill([(400, 1)], [6, 5, 4, 3, 2, 1], 12), (99,) * 6)
        self.assertEqual(plan_cost(Mill([(400, 1)], [6, 5, 4, 3, 2, 1], 12), plan), 50)
        mill = Mill([(100, 10), (80, 9), (61, 7)], [45, 36, 31, 27, 20, 14], 6)
        plan = least_plan(mill, (97, 61, 39, 21, 88, 99))
        self.assertIs(meets(mill, (97, 61, 39, 21, 88, 99), plan), True)
        self.assertEqual(plan_cost(mill, plan), least_cost(mill, (97, 61, 39, 21, 88, 99)))

    def test_orders_somewhat_beyond_the_bound(self):
        mill = Mill([(100, 10)], [50, 25], 4)
        self.assertEqual(least_cost(mill, (150, 200)), 750 + 500)

    def test_the_told_plan_has_maximal_patterns_alone(self):
        for rng, mill in some_mills(140, 20, 3):
            plan = least_plan(mill, some_order(rng, mill, 9))
            self.assertTrue(all(pattern in maximal(mill) for pattern, _ in plan))

    def test_the_told_plan_is_new(self):
        first = least_plan(MILL, (5, 5, 5))
        first.clear()
        self.assertTrue(least_plan(MILL, (5, 5, 5)))


if __name__ == "__main__":
    unittest.main()

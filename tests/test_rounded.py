"""Point 13: fractional plans of the least cost, rounded up and down."""

import random
import unittest
from fractions import Fraction
from math import ceil, floor

from brute import left, some_mill, some_mills, some_order, state, told_plan
from millrolls.linear import fractional_plan
from millrolls.mills import Mill
from millrolls.plans import is_plan, least_plan, meets, plan_cost
from millrolls.rounded import rounded_down, rounded_up


class RoundedCase(unittest.TestCase):
    def assert_rounded(self, mill, order, told=told_plan):
        before = state(mill)
        fractions = [(pattern, Fraction(*times)) for pattern, times in fractional_plan(mill, order)]
        up = rounded_up(mill, order)
        down = rounded_down(mill, order)
        self.assertEqual(state(mill), before)
        for plan in (up, down):
            self.assertIs(type(plan), list)
            self.assertIs(is_plan(mill, plan), True, (before, order, plan))
            self.assertIs(meets(mill, order, plan), True, (before, order, plan))
            self.assertEqual([type(times) for _, times in plan], [int] * len(plan))
        self.assertEqual(up, [(pattern, ceil(times)) for pattern, times in fractions])
        whole = {pattern: floor(times) for pattern, times in fractions if times >= 1}
        rest = order
        for (_, counts), times in whole.items():
            rest = left(rest, [times * count for count in counts])
        for pattern, times in told(mill, rest):
            whole[pattern] = whole.get(pattern, 0) + times
        self.assertEqual(down, sorted(whole.items()), (before, order))


class Rounded(RoundedCase):
    def test_ordinary(self):
        mill = Mill([(100, 10)], [50, 30], 4)
        self.assertEqual(rounded_up(mill, (3, 0)), [((0, (2, 0)), 2)])
        self.assertEqual(rounded_down(mill, (3, 0)), [((0, (1, 1)), 1), ((0, (2, 0)), 1)])
        self.assertEqual(rounded_up(mill, (0, 7)), [((0, (0, 3)), 3)])
        self.assertEqual(rounded_down(mill, (0, 7)), [((0, (0, 3)), 3)])

    def test_fractions_that_are_whole_numbers_already(self):
        mill = Mill([(100, 10)], [50, 30], 4)
        for order, plan in (
            ((4, 0), [((0, (2, 0)), 2)]), ((0, 9), [((0, (0, 3)), 3)]), ((98, 0), [((0, (2, 0)), 49)]),
            ((0, 99), [((0, (0, 3)), 33)]),
        ):
            self.assertEqual(rounded_up(mill, order), plan)
            self.assertEqual(rounded_down(mill, order), plan)

    def test_one_piece_of_many(self):
        # The fraction is far below 1: rounded down, nothing of it is left.
        for rolls in ([(100, 10)], [(100, 10), (50, 6)], [(50, 6), (100, 10)]):
            mill = Mill(rolls, [10], 12)
            self.assert_rounded(mill, (1,))
            self.assertEqual(rounded_up(mill, (1,)), [((rolls.index((100, 10)), (10,)), 1)])
        self.assertEqual(rounded_down(mill, (1,)), [((0, (5,)), 1)])

    def test_nothing_ordered(self):
        for many in range(1, 7):
            mill = Mill([(100, 10), (60, 7)], list(range(20, 20 + many)), 4)
            self.assertEqual(rounded_up(mill, (0,) * many), [])
            self.assertEqual(rounded_down(mill, (0,) * many), [])

    def test_small_mills(self):
        for many in range(1, 5):
            for rng, mill in some_mills(300 + many, 30, many):
                self.assert_rounded(mill, some_order(rng, mill, 4))

    def test_great_counts(self):
        for many in range(1, 4):
            for rng, mill in some_mills(310 + many, 20, many, most_knives=4):
                self.assert_rounded(mill, some_order(rng, mill, 99))

    def test_great_counts_with_zeros(self):
        for rng, mill in some_mills(320, 30, 4, most_knives=4):
            order = tuple(rng.choice([0, 1, 50, 99]) for _ in range(4))
            self.assert_rounded(mill, order, least_plan)

    def test_six_widths(self):
        rng = random.Random(33)
        for _ in range(15):
            mill = some_mill(rng, 6, widest=60)
            self.assert_rounded(mill, some_order(rng, mill, 99), least_plan)

    def test_what_is_joined_is_counted_once(self):
        # Rounded down it is cut once, and once more for what is left.
        mill = Mill([(10, 1)], [5], 2)
        self.assertEqual(rounded_down(mill, (3,)), [((0, (2,)), 2)])
        self.assertEqual(rounded_up(mill, (3,)), [((0, (2,)), 2)])

    def test_costs_are_near_each_other(self):
        for rng, mill in some_mills(340, 20, 3):
            order = some_order(rng, mill, 99)
            least = sum(Fraction(*times) * mill.rolls[kind][1] for (kind, _), times in fractional_plan(mill, order))
            dearest = max(cost for _, cost in mill.rolls)
            for plan in (rounded_up(mill, order), rounded_down(mill, order)):
                self.assertGreaterEqual(plan_cost(mill, plan), least)
            self.assertLessEqual(plan_cost(mill, rounded_up(mill, order)), least + 3 * dearest)

    def test_the_plans_are_new(self):
        mill = Mill([(100, 10)], [50, 30], 4)
        for told in (lambda: rounded_up(mill, (3, 4)), lambda: rounded_down(mill, (3, 4))):
            first = told()
            copy = list(first)
            first.clear()
            self.assertEqual(told(), copy)


if __name__ == "__main__":
    unittest.main()

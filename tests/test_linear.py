"""Point 12: weights that are best for an order, and fractional plans of the least cost."""

import random
import unittest
from fractions import Fraction
from math import gcd

from brute import all_maximal, cheapest_of, some_mill, some_mills, some_order, state
from millrolls.linear import best_weights, fractional_plan
from millrolls.mills import Mill
from millrolls.weights import are_weights, bound, worth


class LinearCase(unittest.TestCase):
    def assert_fraction(self, told):
        self.assertIs(type(told), tuple)
        self.assertEqual([type(part) for part in told], [int, int])
        self.assertGreaterEqual(told[1], 1)
        self.assertEqual(gcd(*told), 1)

    def assert_best(self, mill, order, known=None):
        """The plan and the weights show of each other that there are none better."""
        before = state(mill)
        weights = best_weights(mill, order)
        plan = fractional_plan(mill, order)
        self.assertEqual(state(mill), before)
        self.assertEqual([type(weights), type(plan)], [list, list])
        for weight in weights:
            self.assert_fraction(weight)
        self.assertIs(are_weights(mill, weights), True, (before, order))
        self.assert_plan(mill, order, plan, all_maximal(mill) if known is None else known)
        cost = sum((Fraction(*times) * mill.rolls[kind][1] for (kind, _), times in plan), Fraction(0))
        self.assertEqual(Fraction(*worth(weights, order)), cost, (before, order))
        return cost

    def assert_plan(self, mill, order, plan, known):
        cuts = [pattern for pattern, _ in plan]
        self.assertEqual(cuts, sorted(set(cuts)))
        for pattern, times in plan:
            self.assertIn(pattern, known)
            self.assert_fraction(times)
            self.assertGreater(times[0], 0)
        for at, count in enumerate(order):
            given = sum((Fraction(*times) * counts[at] for (_, counts), times in plan), Fraction(0))
            self.assertGreaterEqual(given, count, (state(mill), order))


class Best(LinearCase):
    def test_ordinary(self):
        mill = Mill([(100, 10)], [50, 30], 4)
        self.assertEqual(best_weights(mill, (3, 0)), [(5, 1), (0, 1)])
        self.assertEqual(fractional_plan(mill, (3, 0)), [((0, (2, 0)), (3, 2))])
        self.assertEqual(self.assert_best(mill, (3, 0)), 15)
        self.assertEqual(self.assert_best(mill, (0, 7)), Fraction(70, 3))
        # Two pieces of 30 beside no piece of 50: 2 / 3 of a roll, less where a roll has both.
        self.assertEqual(self.assert_best(mill, (2, 3)), 20)

    def test_one_width(self):
        for rolls, knives, cost in (
            ([(100, 10)], 12, Fraction(10, 4)), ([(100, 10)], 3, Fraction(10, 3)), ([(100, 10)], 1, 10),
            ([(100, 10), (50, 4)], 12, 2), ([(100, 10), (50, 6), (24, 1)], 12, Fraction(5, 2)),
            ([(99, 10), (50, 6), (25, 3)], 12, 3),
        ):
            mill = Mill(rolls, [25], knives)
            for count in (0, 1, 2, 50, 99):
                self.assertEqual(self.assert_best(mill, (count,)), cost * count)

    def test_one_kind_of_rolls(self):
        for many in range(1, 5):
            for rng, mill in some_mills(200 + many, 25, many, kinds=1):
                self.assert_best(mill, some_order(rng, mill, 99))
                self.assert_best(mill, some_order(rng, mill, 3))

    def test_several_kinds_of_rolls(self):
        for many in range(1, 5):
            for kinds in (2, 3):
                for rng, mill in some_mills(210 + many, 20, many, kinds=kinds):
                    self.assert_best(mill, some_order(rng, mill, 99))
                    self.assert_best(mill, some_order(rng, mill, 3))

    def test_orders_with_zeros(self):
        for rng, mill in some_mills(220, 60, 4):
            order = tuple(rng.choice([0, 0, 1, 50, 99]) for _ in range(4))
            self.assert_best(mill, order)
            for at in range(4):
                alone = tuple(order[at] if place == at else 0 for place in range(4))
                self.assert_best(mill, alone)

    def test_nothing_ordered_at_all(self):
        for many in range(1, 7):
            mill = Mill([(100, 10), (60, 7)], list(range(20, 20 + many)), 4)
            self.assertEqual(fractional_plan(mill, (0,) * many), [])
            self.assertEqual(worth(best_weights(mill, (0,) * many), (0,) * many), (0, 1))
            self.assertIs(are_weights(mill, best_weights(mill, (0,) * many)), True)

    def test_several_plans_cost_the_same(self):
        rng = random.Random(23)
        for rolls in ([(12, 4)], [(12, 4), (6, 2)], [(12, 4), (12, 4), (6, 2)], [(12, 5), (12, 5), (12, 5)]):
            for widths in ([1, 2, 3, 4], [2, 3, 4, 6], [6, 3, 2], [6, 4, 3, 2], [3, 6], [1]):
                for knives in (1, 2, 4, 7):
                    mill = Mill(rolls, widths, knives)
                    known = all_maximal(mill)
                    for order in ((1,) * len(widths), (99,) * len(widths), some_order(rng, mill, 12)):
                        self.assert_best(mill, order, known)

    def test_many_weights_are_best(self):
        # Each piece has a roll of its own, so that the weights may be moved to and fro.
        for many in range(1, 7):
            mill = Mill([(100, 10)], list(range(51, 51 + many)), 3)
            self.assertEqual(self.assert_best(mill, (1,) * many), 10 * many)
        for knives in range(1, 4):
            mill = Mill([(90, 9)], [30, 29, 28, 27], knives)
            for order in ((1, 1, 1, 1), (5, 0, 5, 0), (99, 99, 99, 99), (0, 0, 0, 2)):
                self.assertEqual(self.assert_best(mill, order), Fraction(9 * sum(order), knives))

    def test_six_widths_and_twelve_knives(self):
        mill = Mill([(400, 100), (399, 99), (200, 49)], [33, 32, 31, 30, 29, 28], 12)
        for order in ((99,) * 6, (1, 0, 0, 0, 0, 1), (0, 5, 0, 99, 3, 7)):
            weights = best_weights(mill, order)
            plan = fractional_plan(mill, order)
            self.assertIs(are_weights(mill, weights), True)
            cost = sum(Fraction(*times) * mill.rolls[kind][1] for (kind, _), times in plan)
            self.assertEqual(Fraction(*worth(weights, order)), cost)

    def test_every_call_ends(self):
        rng = random.Random(24)
        for _ in range(150):
            mill = some_mill(rng, rng.randint(1, 6), widest=rng.choice([12, 100]), most_knives=4)
            order = tuple(rng.choice([0, 1, 1, 2, 98, 99]) for _ in mill.widths)
            weights = best_weights(mill, order)
            cost = sum((Fraction(*times) * mill.rolls[kind][1] for (kind, _), times in fractional_plan(mill, order)),
                       Fraction(0))
            self.assertIs(are_weights(mill, weights), True)
            self.assertEqual(Fraction(*worth(weights, order)), cost)

    def test_the_least_cost_is_at_least_that_of_the_fractions(self):
        for rng, mill in some_mills(230, 40, 3):
            order = some_order(rng, mill, 3)
            self.assertGreaterEqual(cheapest_of(mill)(order), bound(best_weights(mill, order), order))

    def test_the_lists_are_new(self):
        mill = Mill([(100, 10)], [50, 30], 4)
        for told in (lambda: best_weights(mill, (3, 4)), lambda: fractional_plan(mill, (3, 4))):
            first = told()
            copy = list(first)
            first.clear()
            self.assertEqual(told(), copy)


if __name__ == "__main__":
    unittest.main()

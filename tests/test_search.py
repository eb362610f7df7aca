"""The search below points 10 and 14: its bounds, and how little of all plans it looks at."""

import random
import unittest
from itertools import product
from unittest.mock import patch

from brute import cheapest_of, some_mill, some_mills, some_order
from millrolls.mills import Mill
from millrolls.patterns import maximal
from millrolls.search import Search

ANY_COST = 10 ** 9


def search_of(mill):
    return Search([(counts, mill.rolls[kind][1]) for kind, counts in maximal(mill)], len(mill.widths))


def all_excesses(corner):
    """Return a dict of the least excess for each remainder that columns leave, by trying all columns again and again."""
    size = len(corner.using)
    moves = [(cost * corner.scale - sum(p * g for p, g in zip(corner.prices, gives)), gives)
             for gives, cost in corner.columns]
    moves += [(price, tuple(-1 if at == thing else 0 for at in range(size))) for thing, price in enumerate(corner.prices)]
    moves = [(excess, corner.remainder(gives)) for excess, gives in moves]
    least = {(0,) * size: 0}
    changed = True
    while changed:
        changed = False
        for left, excess in list(least.items()):
            for more, move in moves:
                there = tuple((one + other) % corner.scale for one, other in zip(left, move))
                if excess + more < least.get(there, ANY_COST):
                    least[there] = excess + more
                    changed = True
    return least


class Corners(unittest.TestCase):
    def some_corners(self, seed, many):
        rng = random.Random(seed)
        for _ in range(many):
            mill = some_mill(rng, rng.randint(2, 4), widest=60)
            corner = search_of(mill).corner(some_order(rng, mill, 99))
            if 2 <= corner.scale <= 400:
                yield mill, corner

    def test_excesses_are_at_least_0_at_the_least_cost(self):
        for _, corner in self.some_corners(51, 60):
            self.assertTrue(min(corner.excesses) >= 0)
            self.assertTrue(min(corner.prices) >= 0)

    def test_the_least_excess_of_each_remainder(self):
        steps = 0
        for _, corner in self.some_corners(52, 80):
            least = all_excesses(corner)
            # The dearest ones first: then all others are reached on the way.
            for left, excess in sorted(least.items(), key=lambda pair: -pair[1]):
                if excess > 0:
                    self.assertIsNone(corner.least_excess(left, excess - 1))
                self.assertEqual(corner.least_excess(left, excess), excess)
                self.assertEqual(corner.least_excess(left, ANY_COST), excess)
                way = corner.reached[left][1]
                self.assertEqual(sum(corner.steps[step][0] for step in way), excess)
                total = [sum(corner.steps[step][2][at] for step in way) for at in range(len(left))]
                self.assertEqual(tuple(part % corner.scale for part in total), left)
                steps = max(steps, len(set(way)))
        self.assertGreaterEqual(steps, 3)

    def test_remainders_that_no_columns_leave(self):
        mill = Mill([(10, 1)], [5], 2)
        search = Search([((2, -2), 1)], 1)
        corner = search.corner((4, -4))
        told = [corner.bound((count, -count), ANY_COST) for count in range(6)]
        self.assertEqual([told[count] for count in (0, 2, 4)], [0, 1, 2])
        self.assertEqual([search.least((count, -count), ANY_COST) for count in range(6)], [0, None, 1, None, 2, None])
        self.assertEqual(search_of(mill).least((5,), ANY_COST), 3)

    def test_no_bound_is_above_the_least_cost(self):
        met = 0
        for rng, mill in some_mills(53, 60, 3):
            search = search_of(mill)
            cheapest = cheapest_of(mill)
            orders = [some_order(rng, mill, 4) for _ in range(4)]
            for order in orders:
                search.corner(order)
            for corner, order in product(search.corners, orders):
                bound = corner.bound(order, ANY_COST)
                self.assertLessEqual(bound, cheapest(order))
                self.assertLessEqual(corner.worth(order), bound)
                self.assertIsNone(corner.bound(order, bound - 1))
                if corner.is_met(order):
                    met += 1
                    self.assertEqual(bound, cheapest(order))
        self.assertGreater(met, 100)

    def test_rounded_down(self):
        for rng, mill in some_mills(54, 60, 3):
            order = some_order(rng, mill, 99)
            corner = search_of(mill).corner(order)
            gives, cost = corner.rounded_down(order)
            rest = tuple(max(0, count - given) for count, given in zip(order, gives))
            self.assertTrue(min(gives) >= 0 and cost >= 0)
            worth = sum(price * count for price, count in zip(corner.prices, order))
            rest_worth = sum(price * count for price, count in zip(corner.prices, rest))
            # What is left is worth just what is not spent, and less than a roll of each pattern.
            self.assertEqual(worth - rest_worth, cost * corner.scale)
            self.assertLess(rest_worth, 3 * max(cost for _, cost in mill.rolls) * corner.scale)


class Least(unittest.TestCase):
    def test_at_most_so_much(self):
        for rng, mill in some_mills(55, 40, 3):
            order = some_order(rng, mill, 3)
            least = cheapest_of(mill)(order)
            for most in (least - 1, least, least + 1, 2 * least + 5):
                # Each time anew, so that nothing is known from the time before.
                self.assertEqual(search_of(mill).least(order, most), least if most >= least else None)
            search = search_of(mill)
            for most in (least + 9, least, least - 1, -1, -99):
                self.assertEqual(search.least(order, most), least if most >= least else None)

    def test_little_effort_for_the_bounds_changes_no_cost(self):
        for effort in (0, 1, 2, 5):
            with patch("millrolls.corners.MOST_EFFORT", effort):
                for rng, mill in some_mills(57 + effort, 40, 3):
                    order = some_order(rng, mill, 3)
                    least = cheapest_of(mill)(order)
                    search = search_of(mill)
                    self.assertEqual(search.least(order, least), least)
                    self.assertIsNone(search.least(order, least - 1))

    def test_nothing_costs_less_than_nothing(self):
        search = search_of(Mill([(10, 1)], [5], 2))
        self.assertEqual([search.least((0,), most) for most in (-2, -1, 0, 1)], [None, None, 0, 0])

    def test_no_columns(self):
        search = Search([], 1)
        self.assertIsNone(search.least((1, -1), ANY_COST))
        self.assertIsNone(search.first_row([], (1, -1)))
        self.assertEqual(search.first_row([], (0, -1)), [])

    def test_what_is_done_is_worth_nothing_below_0(self):
        search = Search([((1, 0, -1, 0), 5), ((1, 1, -1, -1), 3), ((0, 1, 0, -1), 1)], 2)
        for rest in product((0, 1, 2), (0, 1, 2), (-2, -1), (-2, -1)):
            corner = search.corner(rest)
            for other in ((0, 0, -2, -2), (0, 0, 0, -1), (0, 0, -1, 0), (0, 0, 0, 0)):
                self.assertEqual(corner.worth(other), 0)

    def test_of_alike_columns_the_cheapest(self):
        for costs in ([5, 3, 4], [3, 4, 5], [5, 4, 3]):
            search = Search([((1,), cost) for cost in costs], 1)
            self.assertEqual(search.least((2,), ANY_COST), 6)
            self.assertEqual(search.first_row([((1,), cost) for cost in costs], (2,)), [costs.index(3)] * 2)

    def test_great_orders_take_few_rests(self):
        rng = random.Random(56)
        rests = []
        for _ in range(60):
            mill = some_mill(rng, rng.randint(1, 5), widest=100)
            order = tuple(rng.randint(50, 99) for _ in mill.widths)
            search = search_of(mill)
            self.assertIsNotNone(search.least(order, search.greatest_cost(order)))
            rests.append(len(search.corner_of))
        # Mostly the corner of the order itself tells its least cost, and that some plan has it.
        self.assertEqual(sorted(rests)[:55], [1] * 55)
        self.assertLessEqual(max(rests), 50)


if __name__ == "__main__":
    unittest.main()

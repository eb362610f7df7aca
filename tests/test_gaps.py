"""Points 17 and 18: gaps, and all orders of one width."""

import random
import unittest
from fractions import Fraction
from itertools import product

from brute import all_maximal, ceiling, cheapest_of, some_mills, some_order, state, weigh
from millrolls.gaps import fraction_cost, gap, gaps_within, single_cost, single_costs, single_gaps
from millrolls.linear import best_weights, fractional_plan
from millrolls.mills import Mill
from millrolls.plans import least_cost

HALF = Mill([(10, 4)], [5], 2)


class Fractions(unittest.TestCase):
    def test_ordinary(self):
        self.assertEqual([fraction_cost(HALF, (count,)) for count in (0, 1, 2, 3)], [(0, 1), (2, 1), (4, 1), (6, 1)])
        mill = Mill([(100, 10)], [50, 30], 4)
        self.assertEqual(fraction_cost(mill, (3, 0)), (15, 1))
        self.assertEqual(fraction_cost(mill, (0, 1)), (10, 3))
        self.assertEqual(fraction_cost(mill, (1, 1)), (25, 3))

    def test_beside_the_worth_by_the_best_weights(self):
        for many in range(1, 7):
            for rng, mill in some_mills(700 + many, 25, many, most_knives=5):
                order = some_order(rng, mill, 99)
                before = state(mill)
                told = fraction_cost(mill, order)
                self.assertEqual(state(mill), before)
                self.assertIs(type(told), tuple)
                # A Fraction's numbers are in lowest terms, the bottom at least 1.
                cost = weigh(best_weights(mill, order), order)
                self.assertEqual(told, (cost.numerator, cost.denominator))
                self.assertEqual([type(part) for part in told], [int, int])
                plan = fractional_plan(mill, order)
                self.assertEqual(cost, sum(Fraction(*times) * mill.rolls[kind][1] for (kind, _), times in plan))

    def test_nothing_ordered(self):
        self.assertEqual(fraction_cost(Mill([(10, 4)], [5, 3], 2), (0, 0)), (0, 1))


class Gaps(unittest.TestCase):
    def test_ordinary(self):
        self.assertEqual([gap(HALF, (count,)) for count in range(6)], [0, 2, 0, 2, 0, 2])
        mill = Mill([(10, 3)], [5], 2)
        # Three halves are rounded up to 2 first.
        self.assertEqual([gap(mill, (count,)) for count in range(6)], [0, 1, 0, 1, 0, 1])
        mill = Mill([(10, 1)], [5], 2)
        self.assertEqual([gap(mill, (count,)) for count in range(6)], [0] * 6)

    def test_beside_the_least_cost(self):
        seen = {0: 0, 1: 0}
        for many, top in ((1, 20), (2, 6), (3, 3), (4, 2)):
            for rng, mill in some_mills(710 + many, 40, many):
                order = some_order(rng, mill, top)
                before = state(mill)
                told = gap(mill, order)
                self.assertEqual(state(mill), before)
                fractional = ceiling(weigh(best_weights(mill, order), order))
                self.assertEqual(told, cheapest_of(mill)(order) - fractional, (before, order))
                self.assertGreaterEqual(told, 0)
                seen[min(told, 1)] += 1
        self.assertTrue(min(seen.values()) > 30, seen)

    def test_great_orders(self):
        for rng, mill in some_mills(720, 40, 3, widest=60):
            order = some_order(rng, mill, 99)
            top, bottom = fraction_cost(mill, order)
            self.assertEqual(gap(mill, order), least_cost(mill, order) + (-top // bottom))

    def test_a_gap_of_a_whole_roll_beyond_the_rounding(self):
        # All rolls cost 1, and still one more of them is needed than any weights tell.
        mill = Mill([(132, 1)], [44, 33, 12], 12)
        self.assertEqual(gap(mill, (2, 3, 6)), 1)
        self.assertEqual(fraction_cost(mill, (2, 3, 6)), (259, 132))
        self.assertEqual(gap(mill, (3, 4, 11)), 0)


class Within(unittest.TestCase):
    def test_ordinary(self):
        self.assertEqual(gaps_within(HALF, 0), [])
        self.assertEqual(gaps_within(HALF, 1), [((1,), 2)])
        self.assertEqual(gaps_within(HALF, 6), [((1,), 2), ((3,), 2), ((5,), 2)])
        self.assertEqual(gaps_within(Mill([(10, 1)], [5], 2), 9), [])

    def test_beside_a_loop_over_all_orders(self):
        found = 0
        for many, top in ((1, 20), (2, 6), (3, 3), (4, 2)):
            for rng, mill in some_mills(730 + many, 20, many):
                before = state(mill)
                most = rng.randint(0, top)
                told = gaps_within(mill, most)
                self.assertEqual(state(mill), before)
                self.assertIs(type(told), list)
                cheapest = cheapest_of(mill)
                wanted = []
                for order in product(range(most + 1), repeat=many):
                    above = cheapest(order) - ceiling(weigh(best_weights(mill, order), order))
                    if above > 0:
                        wanted.append((order, above))
                self.assertEqual(told, wanted)
                self.assertEqual(told, [(order, gap(mill, order)) for order, _ in told])
                self.assertEqual(told, sorted(told))
                found += len(told)
        self.assertGreater(found, 300)

    def test_the_list_is_new(self):
        gaps_within(HALF, 6).clear()
        self.assertEqual(len(gaps_within(HALF, 6)), 3)


def all_steps(mill, place):
    """Return the steps of one width: the maximal patterns of the rolls that it fits, with no other width."""
    wide = mill.widths[place]
    single = Mill([roll for roll in mill.rolls if roll[0] >= wide], [wide], mill.knives)
    return [(counts[0], single.rolls[kind][1]) for kind, counts in all_maximal(single)]


def count_up(steps, most):
    """Return the list of the least costs of the orders from 0 to so many."""
    costs = [0]
    for many in range(1, most + 1):
        costs.append(min(cost + costs[max(0, many - pieces)] for pieces, cost in steps))
    return costs


class Single(unittest.TestCase):
    def some_singles(self, seed, many):
        rng = random.Random(seed)
        for _ in range(many):
            rolls = [(rng.randint(20, 100), rng.randint(1, 20)) for _ in range(rng.randint(1, 3))]
            widths = rng.sample(range(5, max(width for width, _ in rolls) * 2 // 3), rng.randint(1, 4))
            yield Mill(rolls, widths, rng.choice([2, 3, 6, 12])), rng.randrange(len(widths))

    def test_ordinary(self):
        self.assertEqual(single_costs(HALF, 0), ([0, 4, 4], (2, 4)))
        mill = Mill([(60, 7), (100, 10)], [50, 30], 4)
        # Of 50 the steps are (1, 7) and (2, 10), of 30 (2, 7) and (3, 10).
        self.assertEqual(single_costs(mill, 0), ([0, 7, 10], (2, 10)))
        self.assertEqual(single_costs(mill, 1), ([0, 7, 7, 10, 14, 17, 20], (3, 10)))

    def test_rolls_that_do_not_fit(self):
        mill = Mill([(40, 1), (100, 10)], [50, 30], 4)
        self.assertEqual(single_costs(mill, 0), ([0, 10, 10], (2, 10)))
        self.assertEqual(single_costs(mill, 1), ([0], (1, 1)))
        mill = Mill([(49, 1), (50, 20), (51, 30)], [50], 4)
        self.assertEqual(single_costs(mill, 0), ([0], (1, 20)))

    def test_knives(self):
        for knives in range(1, 13):
            mill = Mill([(100, 10)], [10], knives)
            most = min(10, knives)
            costs = [10 * ceiling(Fraction(many, most)) for many in range((most - 1) * most + 1)]
            self.assertEqual(single_costs(mill, 0), (costs, (most, 10)))

    def test_of_several_best_steps_the_one_with_the_fewest_pieces(self):
        for rolls in ([(60, 9), (20, 3), (40, 6)], [(20, 3), (40, 6), (60, 9)], [(40, 6), (60, 9), (20, 3)]):
            costs, best = single_costs(Mill(rolls, [20], 12), 0)
            self.assertEqual((costs, best), ([0], (1, 3)))
        for rolls in ([(60, 9), (40, 6), (20, 4)], [(40, 6), (60, 9), (20, 4)]):
            costs, best = single_costs(Mill(rolls, [20], 12), 0)
            self.assertEqual((costs, best), ([0, 4, 6, 9], (2, 6)))

    def test_beside_a_count_up(self):
        lengths = set()
        for mill, place in self.some_singles(74, 200):
            before = state(mill)
            told = single_costs(mill, place)
            self.assertEqual(state(mill), before)
            self.assertEqual((type(told), type(told[0]), type(told[1])), (tuple, list, tuple))
            steps = all_steps(mill, place)
            best = min(steps, key=lambda step: (Fraction(step[1], step[0]), step[0]))
            turning = (best[0] - 1) * max(pieces for pieces, _ in steps) + 1
            self.assertEqual(told, (count_up(steps, turning - 1), best))
            lengths.add(turning)
        self.assertGreater(len(lengths), 10)

    def test_one_cost_beside_a_count_up(self):
        for mill, place in self.some_singles(75, 100):
            told = single_costs(mill, place)
            before = (list(told[0]), told[1])
            costs = count_up(all_steps(mill, place), 500)
            self.assertEqual([single_cost(told, many) for many in range(501)], costs)
            self.assertEqual(told, before)

    def test_one_cost_far_beyond_the_turning_point(self):
        self.assertEqual(single_cost(single_costs(HALF, 0), 10 ** 30 + 1), 2 * 10 ** 30 + 4)
        for mill, place in self.some_singles(76, 50):
            told = single_costs(mill, place)
            pieces, cost = told[1]
            below = len(told[0])
            costs = count_up(all_steps(mill, place), below + pieces)
            for many in range(below, below + pieces):
                times = 10 ** 20
                self.assertEqual(single_cost(told, many + times * pieces), costs[many] + times * cost)

    def test_one_cost_of_what_is_handed_in(self):
        # Only the tuple tells: so many pieces less, and so much cost more.
        told = ([0, 5, 6, 8], (3, 7))
        self.assertEqual([single_cost(told, many) for many in range(11)], [0, 5, 6, 8, 12, 13, 15, 19, 20, 22, 26])

    def test_one_cost_beside_the_least_cost(self):
        for mill, place in self.some_singles(77, 40):
            told = single_costs(mill, place)
            for many in (0, 1, 2, 7, 50, 98, 99, 130):
                order = tuple(many if at == place else 0 for at in range(len(mill.widths)))
                self.assertEqual(single_cost(told, many), least_cost(mill, order))

    def test_gaps_ordinary(self):
        self.assertEqual(single_gaps(HALF, 0), ([0, 2, 0], [2, 0]))
        mill = Mill([(60, 7), (100, 10)], [50, 30], 4)
        self.assertEqual(single_gaps(mill, 0), ([0, 2, 0], [2, 0]))
        # The costs 0, 7, 7, 10, 14, 17, 20, 24, 27, 30 less thirds of 10, rounded up.
        self.assertEqual(single_gaps(mill, 1), ([0, 3, 0, 0, 0, 0, 0], [0, 0, 0]))
        self.assertEqual(single_gaps(Mill([(40, 1)], [30], 4), 0), ([0], [0]))

    def test_gaps_beside_the_gaps_of_single_orders(self):
        above = 0
        for mill, place in self.some_singles(78, 60):
            before = state(mill)
            told = single_gaps(mill, place)
            self.assertEqual(state(mill), before)
            self.assertEqual((type(told), type(told[0]), type(told[1])), (tuple, list, list))
            below, again = told
            costs, (pieces, _) = single_costs(mill, place)
            self.assertEqual((len(below), len(again)), (len(costs), pieces))
            for many in range(min(len(below) + 3 * pieces, 160)):
                order = tuple(many if at == place else 0 for at in range(len(mill.widths)))
                wanted = below[many] if many < len(below) else again[(many - len(below)) % pieces]
                self.assertEqual(gap(mill, order), wanted, (before, place, many))
                above += wanted > 0
        self.assertGreater(above, 300)

    def test_the_lists_are_new(self):
        single_costs(HALF, 0)[0].clear()
        self.assertEqual(single_costs(HALF, 0), ([0, 4, 4], (2, 4)))
        for part in (0, 1):
            single_gaps(HALF, 0)[part].clear()
            self.assertEqual(single_gaps(HALF, 0), ([0, 2, 0], [2, 0]))


if __name__ == "__main__":
    unittest.main()

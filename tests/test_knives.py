"""Point 24: changes of the knives, and the order of patterns with the fewest."""

import random
import unittest

from brute import best_order, some_cuts
from millrolls.knives import changes, fewest_changes, total_changes

CUTS = [(0, (2, 0, 1)), (1, (0, 3, 0)), (0, (1, 0, 1)), (0, (0, 0, 1))]


def differ(one, other):
    return sum(abs(first - second) for first, second in zip(one[1], other[1]))


def differ_in_all(cuts, order):
    return sum(differ(cuts[one], cuts[other]) for one, other in zip(order, order[1:]))


class Changes(unittest.TestCase):
    def test_ordinary(self):
        self.assertEqual(changes(CUTS[0], CUTS[1]), 6)
        self.assertEqual(changes(CUTS[0], CUTS[2]), 1)
        self.assertEqual(changes(CUTS[1], CUTS[3]), 4)
        self.assertEqual(changes((0, (12,)), (0, (3,))), 9)

    def test_the_kind_of_the_roll_is_no_change(self):
        self.assertEqual(changes((0, (1, 2)), (2, (1, 2))), 0)
        self.assertEqual(changes((0, (1, 2)), (2, (1, 3))), 1)

    def test_both_ways_and_between_a_pattern_and_itself(self):
        rng = random.Random(101)
        for _ in range(200):
            one, other = some_cuts(rng, 2, rng.randint(1, 6))
            self.assertEqual(changes(one, other), differ(one, other))
            self.assertEqual(changes(other, one), changes(one, other))
            self.assertEqual(changes(one, one), 0)


class Total(unittest.TestCase):
    def test_ordinary(self):
        self.assertEqual(total_changes(CUTS, [0, 1, 2, 3]), 6 + 5 + 1)
        self.assertEqual(total_changes(CUTS, [0, 2, 3, 1]), 1 + 1 + 4)
        self.assertEqual(total_changes(CUTS, [3, 2]), 1)

    def test_no_pattern_and_one(self):
        self.assertEqual(total_changes([], []), 0)
        for place in range(4):
            self.assertEqual(total_changes(CUTS, [place]), 0)

    def test_backwards(self):
        rng = random.Random(102)
        for _ in range(100):
            cuts = some_cuts(rng, rng.randint(0, 8), rng.randint(1, 6))
            order = rng.sample(range(len(cuts)), len(cuts))
            before = (list(cuts), list(order))
            self.assertEqual(total_changes(cuts, order), differ_in_all(cuts, order))
            self.assertEqual(total_changes(cuts, order[::-1]), differ_in_all(cuts, order))
            self.assertEqual((cuts, order), before)


class Fewest(unittest.TestCase):
    def assert_told(self, cuts):
        before = list(cuts)
        told = fewest_changes(cuts)
        self.assertEqual(cuts, before)
        self.assertEqual((type(told), type(told[1])), (tuple, list))
        self.assertEqual(told, best_order(cuts, lambda order: differ_in_all(cuts, order)), cuts)

    def test_ordinary(self):
        self.assertEqual(fewest_changes(CUTS), (6, [0, 2, 3, 1]))
        self.assertEqual(fewest_changes(CUTS[::-1]), (6, [2, 0, 1, 3]))

    def test_no_pattern_one_and_equal_ones(self):
        self.assertEqual(fewest_changes([]), (0, []))
        self.assertEqual(fewest_changes(CUTS[:1]), (0, [0]))
        for many in range(1, 6):
            self.assertEqual(fewest_changes(CUTS[:1] * many), (0, list(range(many))))
        self.assertEqual(fewest_changes([CUTS[0], CUTS[1], CUTS[0], CUTS[1]]), (6, [0, 2, 1, 3]))

    def test_the_first_of_several(self):
        # A row of counts in which both ends, and some ways in between, are alike.
        self.assertEqual(fewest_changes([(0, (3,)), (0, (1,)), (0, (2,))]), (2, [0, 2, 1]))
        self.assertEqual(fewest_changes([(0, (1, 0)), (0, (0, 1)), (0, (1, 1))]), (2, [0, 2, 1]))
        self.assertEqual(fewest_changes([(0, (1, 1)), (0, (0, 1)), (0, (1, 0))]), (2, [1, 0, 2]))
        # Equal counts need not stand together if nothing is lost.
        self.assertEqual(fewest_changes([(0, (1,)), (0, (2,)), (1, (1,))])[1], [0, 2, 1])
        self.assert_told([(0, (1, 1)), (0, (2, 1)), (0, (1, 2)), (0, (1, 1)), (0, (2, 2))])

    def test_beside_all_orders(self):
        rng = random.Random(103)
        for _ in range(400):
            self.assert_told(some_cuts(rng, rng.randint(0, 5), rng.randint(1, 4)))
        for _ in range(10):
            self.assert_told(some_cuts(rng, 7, rng.randint(1, 4)))

    def test_a_row_of_twelve(self):
        rng = random.Random(104)
        cuts = some_cuts(rng, 12, 6)
        fewest, order = fewest_changes(cuts)
        self.assertEqual(sorted(order), list(range(12)))
        self.assertEqual(total_changes(cuts, order), fewest)
        self.assertEqual(fewest_changes(cuts[::-1])[0], fewest)

    def test_many_equal_patterns(self):
        fewest, order = fewest_changes([CUTS[at % 4] for at in range(40)])
        self.assertEqual(fewest, 6)
        self.assertEqual([at % 4 for at in order], [0] * 10 + [2] * 10 + [3] * 10 + [1] * 10)

    def test_the_order_is_new(self):
        fewest_changes(CUTS)[1].clear()
        self.assertEqual(fewest_changes(CUTS)[1], [0, 2, 3, 1])


if __name__ == "__main__":
    unittest.main()

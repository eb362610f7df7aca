"""Point 11: weights, what pieces weigh, and that no plan costs less."""

import random
import unittest
from fractions import Fraction

from brute import all_patterns, cheapest_of, some_mills, some_order, state
from millrolls.mills import Mill
from millrolls.rationals import made
from millrolls.weights import are_weights, bound, worth

MILL = Mill([(100, 10), (60, 7)], [45, 36, 31], 4)


def as_fractions(weights):
    return [Fraction(*weight) for weight in weights]


def holds(mill, weights):
    """Whether weights are weights of a mill, by all patterns."""
    told = as_fractions(weights)
    if len(told) != len(mill.widths) or min(told) < 0:
        return False
    return all(
        sum(weight * count for weight, count in zip(told, counts)) <= mill.rolls[kind][1]
        for kind in range(len(mill.rolls)) for _, counts in all_patterns(mill, kind)
    )


def borne(mill, parts):
    """Return the greatest weights in these parts that all patterns bear."""
    most = min(
        [Fraction(mill.rolls[kind][1], sum(part * count for part, count in zip(parts, counts)))
         for kind in range(len(mill.rolls)) for _, counts in all_patterns(mill, kind)
         if sum(part * count for part, count in zip(parts, counts)) > 0] or [Fraction(0)]
    )
    return [made((most * part).numerator, (most * part).denominator) for part in parts]


class AreWeights(unittest.TestCase):
    def assert_weights(self, wanted, mill, weights):
        before = (state(mill), list(weights))
        self.assertIs(are_weights(mill, weights), wanted, weights)
        self.assertEqual((state(mill), weights), before)

    def test_that_a_pattern_just_bears_and_just_beyond(self):
        self.assert_weights(True, MILL, [(5, 1), (5, 1), (5, 2)])
        self.assert_weights(False, MILL, [(5001, 1000), (5, 1), (5, 2)])
        self.assert_weights(False, MILL, [(5, 1), (5001, 1000), (5, 2)])
        self.assert_weights(False, MILL, [(5, 1), (5, 1), (2501, 1000)])
        self.assert_weights(True, MILL, [(5, 1), (10, 3), (10, 3)])
        self.assert_weights(False, MILL, [(5, 1), (10, 3), (3334, 1000)])

    def test_each_kind_of_rolls_bears_them(self):
        # One piece of the first kind would bear 10, but the second one costs 7.
        for kinds in ([(100, 10), (60, 7)], [(60, 7), (100, 10)], [(100, 10), (60, 7), (99, 9)]):
            self.assert_weights(True, Mill(kinds, [55], 1), [(7, 1)])
            self.assert_weights(False, Mill(kinds, [55], 1), [(701, 100)])

    def test_the_knives_bear_them(self):
        for knives in range(1, 13):
            mill = Mill([(400, 10)], [10], knives)
            self.assert_weights(True, mill, [made(10, knives)])
            self.assert_weights(False, mill, [made(1001, knives * 100)])

    def test_no_weight_at_all(self):
        for many in range(1, 7):
            mill = Mill([(100, 10)], list(range(20, 20 + many)), 4)
            self.assert_weights(True, mill, [(0, 1)] * many)

    def test_a_weight_below_0(self):
        for at in range(3):
            weights = [(0, 1), (0, 1), (0, 1)]
            weights[at] = (-1, 1000)
            self.assert_weights(False, MILL, weights)
        self.assert_weights(False, MILL, [(-1, 1), (-1, 1), (-1, 1)])

    def test_too_few_and_too_many(self):
        for many in range(7):
            self.assert_weights(many == 3, MILL, [(1, 10)] * many)
        self.assert_weights(False, MILL, [(0, 1)] * 4)
        self.assert_weights(False, MILL, [])

    def test_the_greatest_weights_and_just_more(self):
        for rng, mill in some_mills(15, 60, 3, most_knives=4):
            weights = borne(mill, [rng.randint(0, 9) for _ in range(3)])
            self.assert_weights(True, mill, weights)
            if weights != [(0, 1)] * 3:
                self.assert_weights(False, mill, [made(top * 10001, bottom * 10000) for top, bottom in weights])

    def test_beside_all_patterns(self):
        seen = {True: 0, False: 0}
        for rng, mill in some_mills(11, 150, 3, most_knives=4):
            for _ in range(4):
                weights = [made(rng.randint(0, 60), rng.randint(5, 12)) for _ in range(3)]
                wanted = holds(mill, weights)
                seen[wanted] += 1
                self.assert_weights(wanted, mill, weights)
        self.assertTrue(min(seen.values()) > 20)


class Worth(unittest.TestCase):
    def test_ordinary(self):
        self.assertEqual(worth([(5, 1), (5, 1), (5, 2)], (1, 2, 3)), (45, 2))
        self.assertEqual(worth([(1, 2), (1, 3), (1, 7)], (1, 1, 1)), (41, 42))

    def test_lowest_terms(self):
        self.assertEqual(worth([(1, 2), (1, 6)], (1, 3)), (1, 1))
        self.assertEqual(worth([(1, 4), (1, 4)], (1, 1)), (1, 2))
        self.assertEqual(worth([(3, 4)], (2,)), (3, 2))

    def test_nothing(self):
        self.assertEqual(worth([(1, 2), (1, 6)], (0, 0)), (0, 1))
        self.assertEqual(worth([(0, 1), (0, 1)], (5, 9)), (0, 1))
        self.assertEqual(bound([(1, 2), (1, 6)], (0, 0)), 0)

    def test_beside_other_fractions(self):
        rng = random.Random(12)
        for _ in range(300):
            weights = [made(rng.randint(0, 50), rng.randint(1, 20)) for _ in range(rng.randint(1, 6))]
            counts = tuple(rng.randint(0, 99) for _ in weights)
            wanted = sum(weight * count for weight, count in zip(as_fractions(weights), counts))
            before = list(weights)
            told = worth(weights, counts)
            self.assertIs(type(told), tuple)
            self.assertEqual(told, (wanted.numerator, wanted.denominator))
            self.assertEqual(bound(weights, counts), -(-wanted.numerator // wanted.denominator))
            self.assertEqual(weights, before)


class Bound(unittest.TestCase):
    def test_at_a_whole_number_and_above_one(self):
        self.assertEqual(bound([(1, 2)], (4,)), 2)
        self.assertEqual(bound([(1, 2)], (5,)), 3)
        self.assertEqual(bound([(1, 100)], (1,)), 1)
        self.assertEqual(bound([(99, 100), (1, 100)], (1, 1)), 1)
        self.assertEqual(bound([(99, 100), (2, 100)], (1, 1)), 2)

    def test_no_least_cost_is_below_it(self):
        met = 0
        for rng, mill in some_mills(13, 120, 3):
            weights = borne(mill, [rng.randint(0, 9) for _ in range(3)])
            self.assertIs(are_weights(mill, weights), True)
            order = some_order(rng, mill, 3)
            least = cheapest_of(mill)(order)
            self.assertLessEqual(bound(weights, order), least)
            met += bound(weights, order) == least
        self.assertGreater(met, 10)

    def test_weights_that_are_not_borne_may_tell_too_much(self):
        mill = Mill([(100, 10)], [50], 4)
        self.assertEqual(cheapest_of(mill)((99,)), 500)
        self.assertEqual(bound([(5, 1)], (99,)), 495)
        self.assertEqual(bound([(51, 10)], (99,)), 505)
        self.assertIs(are_weights(mill, [(51, 10)]), False)


if __name__ == "__main__":
    unittest.main()

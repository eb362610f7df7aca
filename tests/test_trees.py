"""Points 15 and 16: papers of orders, judged and told."""

import random
import unittest
from copy import deepcopy

from brute import cheapest_of, shows_cost, some_mill, some_mills, some_order, state
from millrolls.linear import best_weights
from millrolls.mills import Mill
from millrolls.plans import least_cost
from millrolls.trees import tree_paper, verify_tree
from millrolls.weights import bound

# One piece needs a roll at 4, of which it is half: its best weight is 2, so its gap is 2.
HALF = Mill([(10, 4)], [5], 2)
# The maximal patterns are (0, (0, 3)), (0, (1, 2)), (0, (2, 0)), (1, (0, 3)) and (1, (1, 1)).
PAIR = Mill([(10, 4), (7, 3)], [5, 2], 3)
# A piece of 5 together with one of 2 is all that one roll at 3 gives: nothing costs less.
SMALL = [((1, 1), 3, None), ((1, 0), 3, None), ((0, 1), 3, None), ((0, 0), 0, None)]


class Case(unittest.TestCase):
    def assert_shown(self, mill, order, most, paper):
        """Hold that a paper shows that an order costs at least this much, and not more."""
        before = (state(mill), deepcopy(paper))
        self.assertIs(verify_tree(mill, order, most, paper), True)
        self.assertIs(verify_tree(mill, order, most - 1, paper), True)
        self.assertIs(verify_tree(mill, order, -5, paper), True)
        self.assertIs(verify_tree(mill, order, most + 1, paper), False)
        self.assertEqual((state(mill), paper), before)

    def assert_shows_nothing(self, mill, order, paper):
        for least in (-1000, 0, 1):
            self.assertIs(verify_tree(mill, order, least, paper), False)


class RowsWithWeights(Case):
    def test_a_row_that_holds(self):
        self.assert_shown(HALF, (3,), 6, [((3,), 6, [(2, 1)])])
        self.assert_shown(HALF, (3,), 5, [((3,), 5, [(2, 1)])])
        self.assert_shown(HALF, (3,), -2, [((3,), -2, [(2, 1)])])
        self.assert_shown(PAIR, (2, 0), 4, [((2, 0), 4, [(2, 1), (1, 1)])])

    def test_the_worth_is_rounded_up(self):
        # 3 pieces of 5/3 weigh 5, 2 of them 10/3, 1 of them 5/3.
        for count, most in ((3, 5), (2, 4), (1, 2)):
            self.assert_shown(HALF, (count,), most, [((count,), most, [(5, 3)])])
            self.assert_shows_nothing(HALF, (count,), [((count,), most + 1, [(5, 3)])])
        self.assert_shows_nothing(HALF, (3,), [((3,), 7, [(2, 1)])])

    def test_weights_below_0(self):
        self.assert_shown(PAIR, (2, 0), 0, [((2, 0), 0, [(0, 1), (1, 1)])])
        self.assert_shows_nothing(PAIR, (2, 0), [((2, 0), 0, [(2, 1), (-1, 1)])])
        self.assert_shows_nothing(PAIR, (2, 0), [((2, 0), -9, [(-1, 7), (0, 1)])])

    def test_weights_that_are_too_heavy_for_a_pattern(self):
        self.assert_shows_nothing(HALF, (3,), [((3,), 6, [(201, 100)])])
        self.assert_shown(PAIR, (1, 2), 4, [((1, 2), 4, [(2, 1), (1, 1)])])
        for weights in ([(21, 10), (1, 1)], [(2, 1), (11, 10)], [(0, 1), (3, 2)], [(3, 1), (0, 1)]):
            self.assert_shows_nothing(PAIR, (1, 2), [((1, 2), 0, weights)])

    def test_too_few_and_too_many_weights(self):
        for weights in ([], [(1, 1)], [(1, 1), (1, 1), (0, 1)], [(1, 1), (1, 1), (1, 1), (1, 1)]):
            self.assert_shows_nothing(PAIR, (1, 2), [((1, 2), 0, weights)])
        for weights in ([], [(1, 1), (1, 1)]):
            self.assert_shows_nothing(HALF, (1,), [((1,), 0, weights)])

    def test_bottoms_that_no_fraction_has(self):
        for weights in ([(1, 0)], [(0, 0)], [(1, -1)], [(-2, -1)]):
            self.assert_shows_nothing(HALF, (1,), [((1,), 0, weights)])
        for wrong in ((1, 0), (0, 0), (1, -1), (0, -1)):
            self.assert_shows_nothing(PAIR, (1, 1), [((1, 1), 0, [(1, 1), wrong])])
            self.assert_shows_nothing(PAIR, (1, 1), [((1, 1), 0, [wrong, (1, 1)])])

    def test_a_rest_of_nothing(self):
        self.assert_shown(HALF, (0,), 0, [((0,), 0, [(2, 1)])])
        self.assert_shows_nothing(HALF, (0,), [((0,), 1, [(2, 1)])])


class RowsWithNone(Case):
    def test_a_rest_of_nothing(self):
        self.assert_shown(HALF, (0,), 0, [((0,), 0, None)])
        self.assert_shown(HALF, (0,), -3, [((0,), -3, None)])
        self.assert_shows_nothing(HALF, (0,), [((0,), 1, None)])
        self.assert_shown(PAIR, (0, 0), 0, [((0, 0), 0, None)])

    def test_all_rows_that_are_needed(self):
        self.assert_shown(HALF, (1,), 4, [((1,), 4, None), ((0,), 0, None)])
        self.assert_shown(HALF, (1,), 4, [((0,), 0, None), ((1,), 4, None)])
        self.assert_shown(HALF, (3,), 8, [((3,), 8, None), ((1,), 4, None), ((0,), 0, None)])
        self.assert_shown(HALF, (3,), 7, [((3,), 7, None), ((1,), 4, None), ((0,), 0, None)])
        self.assert_shown(HALF, (3,), 6, [((3,), 6, None), ((1,), 2, [(2, 1)])])
        self.assert_shown(PAIR, (1, 1), 3, SMALL)

    def test_one_of_them_missing(self):
        self.assert_shows_nothing(HALF, (1,), [((1,), 4, None)])
        self.assert_shows_nothing(HALF, (1,), [((1,), -4, None)])
        self.assert_shows_nothing(HALF, (3,), [((3,), 8, None), ((0,), 0, None)])
        self.assert_shows_nothing(HALF, (3,), [((3,), 8, None), ((1,), 4, None)])
        for at in range(4):
            self.assert_shows_nothing(PAIR, (1, 1), SMALL[:at] + SMALL[at + 1:])

    def test_a_number_that_is_one_too_great(self):
        self.assert_shows_nothing(HALF, (1,), [((1,), 5, None), ((0,), 0, None)])
        self.assert_shows_nothing(HALF, (1,), [((1,), 4, None), ((0,), -1, None)])
        self.assert_shows_nothing(HALF, (3,), [((3,), 9, None), ((1,), 4, None), ((0,), 0, None)])
        self.assert_shows_nothing(HALF, (3,), [((3,), 8, None), ((1,), 3, None), ((0,), 0, None)])
        for at, (rest, number, _) in enumerate(SMALL):
            self.assert_shows_nothing(PAIR, (1, 1), SMALL[:at] + [(rest, number + 1, None)] + SMALL[at + 1:])

    def test_only_maximal_patterns_count(self):
        # By a pattern of one piece of 2 alone, (1, 2) would leave (1, 1), which is not needed.
        rows = [((1, 2), 4, None), ((1, 0), 3, None), ((0, 1), 3, None), ((0, 2), 3, None), ((0, 0), 0, None)]
        self.assert_shown(PAIR, (1, 2), 4, rows)
        self.assert_shown(PAIR, (0, 1), 3, rows)

    def test_patterns_that_give_nothing_of_the_rest(self):
        # (0, (0, 3)) leaves (1, 0) as it is, at no matter what cost.
        self.assert_shown(PAIR, (1, 0), 3, [((1, 0), 3, None), ((0, 0), 0, None)])


class Papers(Case):
    def test_no_row_for_the_order(self):
        self.assert_shows_nothing(PAIR, (2, 1), SMALL)
        self.assert_shows_nothing(PAIR, (1, 1), [])
        self.assert_shows_nothing(HALF, (0,), [])

    def test_each_row_shows_its_own_number(self):
        for rest, number, _ in SMALL:
            self.assert_shown(PAIR, rest, number, SMALL)

    def test_a_rest_that_stands_twice(self):
        for row in SMALL:
            self.assert_shows_nothing(PAIR, (1, 1), SMALL + [row])
            self.assert_shows_nothing(PAIR, (1, 1), [(row[0], row[1] - 1, None)] + SMALL)
        self.assert_shows_nothing(HALF, (3,), [((3,), 6, [(2, 1)]), ((3,), 6, [(2, 1)])])
        self.assert_shows_nothing(HALF, (3,), [((3,), 6, [(2, 1)]), ((3,), 0, [(0, 1)])])

    def test_a_wrong_row_that_is_needed_nowhere(self):
        for row in (((2, 2), 9, [(2, 1), (1, 1)]), ((2, 2), 0, [(9, 1), (0, 1)]), ((2, 2), 0, None)):
            self.assert_shows_nothing(PAIR, (1, 1), SMALL + [row])
        self.assert_shown(PAIR, (1, 1), 3, SMALL + [((2, 2), 6, [(2, 1), (1, 1)])])

    def test_rests_that_are_none_of_the_mill(self):
        for rest in ((), (1,), (0, 0, 0), (-1, 0), (3, -1)):
            for weights in (None, [(0, 1), (0, 1)]):
                self.assert_shows_nothing(PAIR, (1, 1), SMALL + [(rest, -99, weights)])
                self.assert_shows_nothing(PAIR, rest, SMALL + [(rest, -99, weights)])

    def test_rests_beyond_the_bound_of_orders(self):
        self.assert_shown(HALF, (150,), 300, [((150,), 300, [(2, 1)])])

    def test_beside_the_words_of_the_document(self):
        rng = random.Random(61)
        told = {True: 0, False: 0}
        for _ in range(150):
            mill = some_mill(rng, rng.randint(1, 3), most_knives=4)
            order = some_order(rng, mill, 3)
            paper = tree_paper(mill, order)
            for _ in range(8):
                changed = self.changed(rng, paper)
                least = least_cost(mill, order) - rng.choice([0, 0, 1, 3])
                shown = shows_cost(mill, order, least, changed)
                self.assertIs(verify_tree(mill, order, least, changed), shown, (state(mill), order, changed))
                told[shown] += 1
        self.assertTrue(min(told.values()) > 200, told)

    def changed(self, rng, paper):
        paper = deepcopy(paper)
        at = rng.randrange(len(paper))
        rest, number, weights = paper[at]
        what = rng.randrange(5)
        if what == 0:
            del paper[at]
        elif what == 1:
            paper[at] = (rest, number + rng.choice([-2, -1, 1]), weights)
        elif what == 2:
            paper[at] = (rest, number, None)
        elif what == 3 and weights is not None:
            place = rng.randrange(len(weights))
            weights[place] = (weights[place][0] + rng.choice([-1, 1]), weights[place][1])
        else:
            rng.shuffle(paper)
        return paper


class Told(Case):
    def assert_told(self, mill, order, cost):
        before = state(mill)
        paper = tree_paper(mill, order)
        self.assertEqual(state(mill), before)
        self.assertIs(type(paper), list)
        self.assert_shown(mill, order, cost, paper)
        rests = [rest for rest, _, _ in paper]
        self.assertEqual(rests, sorted(set(rests), reverse=True))
        self.assertEqual(rests[0], order)
        for rest, number, weights in paper:
            best = best_weights(mill, rest)
            self.assertEqual(weights, best if bound(best, rest) >= number else None)
        return paper

    def test_ordinary(self):
        self.assertEqual(
            self.assert_told(HALF, (1,), 4), [((1,), 4, None), ((0,), 0, best_weights(HALF, (0,)))]
        )
        self.assertEqual(self.assert_told(HALF, (4,), 8), [((4,), 8, [(2, 1)])])
        self.assert_told(PAIR, (1, 1), 3)

    def test_the_greatest_number_that_is_needed_somewhere(self):
        # A rest that is left by a dear roll and by a cheap one is needed for the cheap one.
        mill = Mill([(10, 9), (10, 4)], [5], 2)
        self.assertEqual(self.assert_told(mill, (1,), 4)[1][:2], ((0,), 0))
        mill = Mill([(10, 4), (10, 9)], [5], 2)
        self.assertEqual(self.assert_told(mill, (1,), 4)[1][:2], ((0,), 0))

    def test_nothing_ordered(self):
        for many in range(1, 7):
            mill = Mill([(100, 10), (60, 7)], list(range(20, 20 + many)), 4)
            paper = self.assert_told(mill, (0,) * many, 0)
            self.assertEqual([row[:2] for row in paper], [((0,) * many, 0)])

    def test_small_mills(self):
        without = 0
        for many, top in ((1, 20), (2, 6), (3, 4), (4, 2)):
            for rng, mill in some_mills(600 + many, 40, many):
                order = some_order(rng, mill, top)
                paper = self.assert_told(mill, order, cheapest_of(mill)(order))
                without += any(weights is None for _, _, weights in paper)
                self.assertIs(shows_cost(mill, order, cheapest_of(mill)(order), paper), True)
        self.assertGreater(without, 20)

    def test_great_orders(self):
        for many in (1, 2):
            for rng, mill in some_mills(610 + many, 20, many, most_knives=3):
                order = some_order(rng, mill, 99)
                self.assert_told(mill, order, least_cost(mill, order))

    def test_the_paper_is_new(self):
        for order in ((1,), (4,)):
            first = tree_paper(HALF, order)
            copy = deepcopy(first)
            for _, _, weights in first:
                if weights is not None:
                    weights.clear()
            first.clear()
            self.assertEqual(tree_paper(HALF, order), copy)


if __name__ == "__main__":
    unittest.main()

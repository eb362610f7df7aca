"""Points 22 and 23: open stacks, the told order, and stack papers."""

import random
import unittest
from copy import deepcopy
from itertools import combinations

from brute import best_order, shows_stacks, some_cuts, stacks_at
from millrolls.stacks import fewest_open, most_open, open_stacks, stack_paper, verify_stacks

# Widths 0 and 1, 1 and 2, 2 and 3, 3 and 0: around in a ring.
RING = [(0, (1, 1, 0, 0)), (0, (0, 2, 1, 0)), (1, (0, 0, 1, 3)), (0, (1, 0, 0, 1))]
APART = [(0, (1, 0, 0)), (0, (0, 1, 0)), (0, (0, 0, 1))]


def rows_by_chance(seed, many, most):
    rng = random.Random(seed)
    return [(rng, some_cuts(rng, rng.randint(0, most), rng.randint(1, 6))) for _ in range(many)]


class Open(unittest.TestCase):
    def test_nothing_done(self):
        for place in range(4):
            self.assertEqual(open_stacks(RING, [], place), 2)
        for place in range(3):
            self.assertEqual(open_stacks(APART, [], place), 1)

    def test_in_between(self):
        # Behind pattern 0, widths 0 and 1 are given ahead, and both are given again behind.
        self.assertEqual(open_stacks(RING, [0], 1), 3)
        self.assertEqual(open_stacks(RING, [0], 2), 4)
        self.assertEqual(open_stacks(RING, [0], 3), 3)
        self.assertEqual(open_stacks(RING, [0, 1], 2), 3)
        self.assertEqual(open_stacks(RING, [1, 0], 2), 3)
        self.assertEqual(open_stacks(RING, [0, 2], 1), 4)
        self.assertEqual(open_stacks(APART, [0], 2), 1)

    def test_as_the_last_one(self):
        for place in range(4):
            done = [other for other in range(4) if other != place]
            self.assertEqual(open_stacks(RING, done, place), 2)
        self.assertEqual(open_stacks(APART, [2, 1], 0), 1)
        self.assertEqual(open_stacks([(0, (1, 2, 3))], [], 0), 3)

    def test_widths_that_only_one_pattern_gives(self):
        cuts = [(0, (1, 1, 0, 0)), (0, (0, 0, 4, 0)), (0, (0, 1, 0, 1))]
        self.assertEqual(open_stacks(cuts, [], 0), 2)
        self.assertEqual(open_stacks(cuts, [0], 1), 2)
        self.assertEqual(open_stacks(cuts, [0, 2], 1), 1)
        self.assertEqual(open_stacks(cuts, [1], 2), 2)
        self.assertEqual(open_stacks(cuts, [0, 1], 2), 2)

    def test_equal_patterns(self):
        cuts = [(0, (1, 1))] * 3
        for done in ([], [0], [1], [0, 2]):
            self.assertEqual(open_stacks(cuts, done, 1 if 1 not in done else 2), 2)

    def test_many_pieces_make_one_stack(self):
        self.assertEqual(open_stacks([(2, (12, 0)), (0, (1, 0))], [], 0), 1)

    def test_beside_the_words_of_the_document(self):
        for rng, cuts in rows_by_chance(91, 200, 6):
            before = list(cuts)
            order = rng.sample(range(len(cuts)), len(cuts))
            for at, place in enumerate(order):
                done = order[:at]
                self.assertEqual(open_stacks(cuts, done, place), stacks_at(cuts, done, place))
                self.assertEqual((cuts, done), (before, order[:at]))


class Most(unittest.TestCase):
    def test_ordinary(self):
        self.assertEqual(most_open(RING, [0, 1, 2, 3]), 3)
        self.assertEqual(most_open(RING, [0, 2, 1, 3]), 4)
        self.assertEqual(most_open(APART, [1, 0, 2]), 1)
        # What is most is neither the first nor the last.
        self.assertEqual(most_open([(0, (1, 0, 0)), (0, (0, 1, 1)), (0, (1, 0, 0))], [0, 1, 2]), 3)

    def test_no_pattern_and_one(self):
        self.assertEqual(most_open([], []), 0)
        self.assertEqual(most_open([(0, (0, 2))], [0]), 1)
        self.assertEqual(most_open([(0, (1, 2))], [0]), 2)

    def test_beside_the_words_of_the_document_and_backwards(self):
        for rng, cuts in rows_by_chance(92, 200, 7):
            order = rng.sample(range(len(cuts)), len(cuts))
            before = (list(cuts), list(order))
            most = max([stacks_at(cuts, order[:at], place) for at, place in enumerate(order)], default=0)
            self.assertEqual(most_open(cuts, order), most)
            self.assertEqual(most_open(cuts, order[::-1]), most)
            self.assertEqual((cuts, order), before)


class Fewest(unittest.TestCase):
    def assert_told(self, cuts):
        before = list(cuts)
        told = fewest_open(cuts)
        self.assertEqual(cuts, before)
        self.assertEqual((type(told), type(told[1])), (tuple, list))
        self.assertEqual(told, best_order(cuts, lambda order: most_open(cuts, order)), cuts)

    def test_no_pattern_one_and_equal_ones(self):
        self.assertEqual(fewest_open([]), (0, []))
        self.assertEqual(fewest_open([(0, (1, 0, 2))]), (2, [0]))
        for many in range(1, 6):
            self.assertEqual(fewest_open([(0, (1, 0, 2))] * many), (2, list(range(many))))

    def test_ordinary(self):
        self.assertEqual(fewest_open(RING), (3, [0, 1, 2, 3]))
        self.assertEqual(fewest_open(APART), (1, [0, 1, 2]))
        self.assertEqual(fewest_open([(0, (1, 0)), (0, (0, 1)), (0, (1, 0)), (0, (0, 2))]), (1, [0, 2, 1, 3]))

    def test_the_first_of_several(self):
        for cuts in ([RING[at] for at in (0, 2, 1, 3)], [RING[at] for at in (3, 1, 0, 2)], RING + [(0, (1, 0, 0, 0))]):
            self.assert_told(cuts)

    def test_beside_all_orders(self):
        numbers = set()
        for _, cuts in rows_by_chance(93, 400, 5):
            self.assert_told(cuts)
            numbers.add(fewest_open(cuts)[0])
        self.assertTrue(numbers >= {0, 1, 2, 3, 4})
        for _, cuts in rows_by_chance(94, 12, 7):
            self.assert_told(cuts)

    def test_great_rows(self):
        rng = random.Random(95)
        for _ in range(5):
            cuts = some_cuts(rng, 40, 6)
            fewest, order = fewest_open(cuts)
            self.assertEqual(sorted(order), list(range(40)))
            self.assertEqual(most_open(cuts, order), fewest)
            self.assertEqual(fewest_open(cuts[::-1])[0], fewest)

    def test_the_order_is_new(self):
        fewest_open(RING)[1].clear()
        self.assertEqual(fewest_open(RING), (3, [0, 1, 2, 3]))


class Papers(unittest.TestCase):
    def assert_shown(self, cuts, fewest, paper):
        """Hold that a paper shows that so many stacks are open at once, and no more."""
        before = deepcopy((cuts, paper))
        self.assertIs(verify_stacks(cuts, fewest, paper), True)
        self.assertIs(verify_stacks(cuts, fewest - 1, paper), True)
        self.assertIs(verify_stacks(cuts, fewest + 1, paper), False)
        self.assertEqual((cuts, paper), before)

    def assert_shows_nothing(self, cuts, paper):
        for least in (-1000, 0, 1):
            self.assertIs(verify_stacks(cuts, least, paper), False)

    def test_told_ordinary(self):
        self.assertEqual(stack_paper([]), [((), 0)])
        self.assertEqual(stack_paper([(0, (1, 2))]), [((), 2), ((0,), 0)])
        self.assertEqual(stack_paper(APART), [
            ((), 1), ((0,), 1), ((0, 1), 1), ((0, 1, 2), 0), ((0, 2), 1), ((1,), 1), ((1, 2), 1), ((2,), 1),
        ])
        self.assertEqual(stack_paper([(0, (1, 1)), (0, (0, 3))]), [((), 2), ((0,), 1), ((0, 1), 0), ((1,), 2)])

    def test_told(self):
        for _, cuts in rows_by_chance(96, 150, 6):
            before = list(cuts)
            paper = stack_paper(cuts)
            self.assertEqual(cuts, before)
            self.assertIs(type(paper), list)
            places = range(len(cuts))
            sets = sorted(some for many in range(len(cuts) + 1) for some in combinations(places, many))
            self.assertEqual([some for some, _ in paper], sets)
            self.assertEqual([number for _, number in paper], [self.fewest_behind(cuts, some) for some in sets])
            self.assert_shown(cuts, fewest_open(cuts)[0], paper)

    def fewest_behind(self, cuts, done):
        """Return the fewest stacks that must be open behind a set, by trying what comes next."""
        known = {}

        def fewest(some):
            if some not in known:
                left = [place for place in range(len(cuts)) if place not in some]
                known[some] = min(
                    [max(stacks_at(cuts, some, place), fewest(tuple(sorted(some + (place,))))) for place in left],
                    default=0,
                )
            return known[some]

        return fewest(done)

    def test_a_set_that_is_left_out(self):
        for cuts in (APART, RING):
            paper = stack_paper(cuts)
            for at in range(len(paper)):
                self.assert_shows_nothing(cuts, paper[:at] + paper[at + 1:])
        self.assert_shows_nothing([], [])

    def test_no_empty_set(self):
        paper = stack_paper(RING)
        self.assertEqual(paper[0], ((), 3))
        self.assert_shows_nothing(RING, paper[1:])

    def test_a_number_that_is_one_too_great(self):
        for cuts in (APART, RING, [(0, (1, 1)), (0, (0, 3))]):
            paper = stack_paper(cuts)
            for at, (places, number) in enumerate(paper):
                self.assert_shows_nothing(cuts, paper[:at] + [(places, number + 1)] + paper[at + 1:])

    def test_the_set_of_all_patterns_above_0(self):
        self.assert_shows_nothing([], [((), 1)])
        self.assert_shown([], 0, [((), 0)])
        self.assert_shown([], -2, [((), -2)])
        self.assert_shows_nothing([(0, (1, 2))], [((), 2), ((0,), 1)])
        self.assert_shown([(0, (1, 2))], 2, [((), 2), ((0,), -1)])

    def test_numbers_may_be_smaller_than_needed(self):
        self.assert_shown(RING, 2, [((), 2)] + stack_paper(RING)[1:])
        # Each pattern has two widths of its own, whatever is open beside them.
        twos = [(places, 2 if len(places) < 4 else 0) for places, _ in stack_paper(RING)]
        self.assert_shown(RING, 2, twos)

    def test_a_set_that_stands_twice(self):
        for cuts in (APART, RING):
            paper = stack_paper(cuts)
            for places, number in paper:
                for other in (number, 0):
                    self.assert_shows_nothing(cuts, paper + [(places, other)])
                    self.assert_shows_nothing(cuts, [(places, other)] + paper)

    def test_what_is_no_ascending_set_of_places(self):
        for places in (
            (1, 0), (0, 0), (3,), (0, 3), (-1,), (0, 1, 2, 3), (0, 1, 1), (2, 1, 0), (0, 1, 3), (-1, 0, 1), (1, 2, 9),
        ):
            self.assert_shows_nothing(APART, stack_paper(APART) + [(places, 0)])
            self.assert_shows_nothing(APART, stack_paper(APART) + [(places, -9)])

    def test_the_order_of_the_rows_is_free(self):
        paper = stack_paper(RING)
        paper.reverse()
        self.assert_shown(RING, 3, paper)

    def test_beside_the_words_of_the_document(self):
        told = {True: 0, False: 0}
        for rng, cuts in rows_by_chance(97, 500, 4):
            paper = stack_paper(cuts)
            for _ in range(rng.randint(0, 2)):
                at = rng.randrange(len(paper))
                paper[at] = (paper[at][0], paper[at][1] + rng.choice([-3, -1, -1, 1]))
            if rng.randint(0, 3) == 0:
                del paper[rng.randrange(len(paper))]
            least = fewest_open(cuts)[0] + rng.choice([-1, -1, 0, 0, 1])
            shown = shows_stacks(cuts, least, paper)
            self.assertIs(verify_stacks(cuts, least, paper), shown)
            told[shown] += 1
        self.assertTrue(min(told.values()) > 100, told)

    def test_the_paper_is_new(self):
        stack_paper(APART).clear()
        self.assertEqual(len(stack_paper(APART)), 8)


if __name__ == "__main__":
    unittest.main()

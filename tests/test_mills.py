"""Points 4 and 5: a mill with all its bounds, and orders; and that a mill's lists are new."""

import unittest

from millrolls.mills import Mill, is_mill, is_order


def a_mill(rolls=((100, 10), (60, 7)), widths=(45, 36, 31), knives=4):
    return Mill(list(rolls), list(widths), knives)


def state(mill):
    return (list(mill.rolls), list(mill.widths), mill.knives)


class Fields(unittest.TestCase):
    def test_fields(self):
        mill = Mill([(100, 10), (60, 7)], [45, 36, 31], 4)
        self.assertEqual(mill.rolls, [(100, 10), (60, 7)])
        self.assertEqual(mill.widths, [45, 36, 31])
        self.assertEqual(mill.knives, 4)
        self.assertEqual([type(mill.rolls), type(mill.widths)], [list, list])

    def test_changing_a_list_that_was_handed_in_changes_nothing(self):
        rolls, widths = [(100, 10), (60, 7)], [45, 36, 31]
        mill = Mill(rolls, widths, 4)
        rolls.append((401, 1))
        rolls[0] = (1, 1)
        widths.clear()
        self.assertEqual(state(mill), ([(100, 10), (60, 7)], [45, 36, 31], 4))
        self.assertIs(is_mill(mill), True)
        self.assertIs(is_order(mill, (1, 2, 3)), True)

    def test_changing_the_mills_lists_changes_nothing_that_was_handed_in(self):
        rolls, widths = [(100, 10), (60, 7)], [45, 36, 31]
        mill = Mill(rolls, widths, 4)
        mill.rolls.clear()
        mill.widths[0] = 9
        self.assertEqual((rolls, widths), ([(100, 10), (60, 7)], [45, 36, 31]))

    def test_two_mills_of_the_same_lists_share_nothing(self):
        rolls, widths = [(100, 10)], [45, 36]
        one, other = Mill(rolls, widths, 4), Mill(rolls, widths, 4)
        one.rolls.append((60, 7))
        one.widths.append(31)
        one.knives = 5
        self.assertEqual(state(other), ([(100, 10)], [45, 36], 4))

    def test_a_mill_that_breaks_a_bound_can_be_made(self):
        self.assertEqual(state(Mill([], [0, 0], 99)), ([], [0, 0], 99))


class MillCase(unittest.TestCase):
    def assert_mill(self, wanted, **parts):
        mill = a_mill(**parts)
        before = state(mill)
        self.assertIs(is_mill(mill), wanted, parts)
        self.assertEqual(state(mill), before)


class Rolls(MillCase):
    def test_how_many_kinds(self):
        self.assert_mill(False, rolls=[])
        self.assert_mill(False, rolls=[], widths=[])
        self.assert_mill(True, rolls=[(100, 10)])
        self.assert_mill(True, rolls=[(100, 10), (90, 9)])
        self.assert_mill(True, rolls=[(100, 10), (90, 9), (80, 8)])
        self.assert_mill(False, rolls=[(100, 10), (90, 9), (80, 8), (70, 7)])
        self.assert_mill(False, rolls=[(100, 10)] * 9)

    def test_their_widths(self):
        self.assert_mill(False, rolls=[(-1, 5)], widths=[1])
        self.assert_mill(False, rolls=[(0, 5)], widths=[1])
        self.assert_mill(True, rolls=[(1, 5)], widths=[1])
        self.assert_mill(True, rolls=[(2, 5)], widths=[1])
        self.assert_mill(True, rolls=[(399, 5)], widths=[1])
        self.assert_mill(True, rolls=[(400, 5)], widths=[1])
        self.assert_mill(False, rolls=[(401, 5)], widths=[1])

    def test_their_costs(self):
        self.assert_mill(False, rolls=[(100, -1)])
        self.assert_mill(False, rolls=[(100, 0)])
        self.assert_mill(True, rolls=[(100, 1)])
        self.assert_mill(True, rolls=[(100, 2)])
        self.assert_mill(True, rolls=[(100, 99)])
        self.assert_mill(True, rolls=[(100, 100)])
        self.assert_mill(False, rolls=[(100, 101)])

    def test_each_kind_keeps_the_bounds(self):
        good = [(100, 10), (90, 9), (80, 8)]
        for place in range(3):
            for wrong in ((0, 5), (401, 5), (100, 0), (100, 101)):
                rolls = list(good)
                rolls[place] = wrong
                self.assert_mill(False, rolls=rolls)
            for right in ((1, 1), (400, 100), (1, 100), (400, 1)):
                rolls = list(good)
                rolls[place] = right
                self.assert_mill(True, rolls=rolls)

    def test_kinds_may_be_alike(self):
        self.assert_mill(True, rolls=[(100, 10), (100, 10), (100, 9)])


class Widths(MillCase):
    def test_how_many(self):
        self.assert_mill(False, widths=[])
        for many in range(1, 7):
            self.assert_mill(True, widths=list(range(20, 20 + many)))
        self.assert_mill(False, widths=list(range(20, 27)))
        self.assert_mill(False, widths=list(range(20, 32)))

    def test_all_different(self):
        self.assert_mill(False, widths=[45, 45])
        self.assert_mill(False, widths=[45, 36, 45])
        self.assert_mill(False, widths=[1, 2, 3, 4, 5, 5])
        self.assert_mill(False, widths=[1, 1, 2, 3, 4, 5])
        self.assert_mill(True, widths=[45, 46])
        self.assert_mill(True, widths=[6, 5, 4, 3, 2, 1])

    def test_their_bounds(self):
        self.assert_mill(False, widths=[-1])
        self.assert_mill(False, widths=[0])
        self.assert_mill(True, widths=[1])
        self.assert_mill(True, widths=[2])
        self.assert_mill(True, rolls=[(400, 5)], widths=[399])
        self.assert_mill(True, rolls=[(400, 5)], widths=[400])
        self.assert_mill(False, rolls=[(400, 5)], widths=[401])
        self.assert_mill(False, rolls=[(401, 5)], widths=[401])

    def test_each_keeps_the_bounds(self):
        for place in range(6):
            for wrong in (0, -5, 101, 401):
                widths = [20, 30, 40, 50, 60, 70]
                widths[place] = wrong
                self.assert_mill(False, widths=widths)

    def test_at_most_as_wide_as_the_widest_roll(self):
        self.assert_mill(True, rolls=[(50, 5)], widths=[49])
        self.assert_mill(True, rolls=[(50, 5)], widths=[50])
        self.assert_mill(False, rolls=[(50, 5)], widths=[51])
        for place in range(3):
            rolls = [(30, 99), (40, 99)]
            # The widest one costs least, so that it is not found by its cost.
            rolls.insert(place, (50, 1))
            self.assert_mill(True, rolls=rolls, widths=[20, 49])
            self.assert_mill(True, rolls=rolls, widths=[50, 20])
            self.assert_mill(False, rolls=rolls, widths=[20, 51])
            self.assert_mill(False, rolls=rolls, widths=[51, 20])


class Knives(MillCase):
    def test_how_many_pieces(self):
        self.assert_mill(False, knives=-1)
        self.assert_mill(False, knives=0)
        for knives in range(1, 13):
            self.assert_mill(True, knives=knives)
        self.assert_mill(False, knives=13)
        self.assert_mill(False, knives=100)


class Orders(unittest.TestCase):
    def assert_order(self, wanted, mill, order):
        before = state(mill)
        self.assertIs(is_order(mill, order), wanted, order)
        self.assertEqual(state(mill), before)

    def test_a_count_for_each_width(self):
        for many in range(1, 7):
            mill = a_mill(widths=range(20, 20 + many))
            for counts in range(9):
                self.assert_order(counts == many, mill, (5,) * counts)

    def test_counts_at_and_beyond_0_and_99(self):
        mill = a_mill(widths=[45])
        self.assert_order(False, mill, (-1,))
        self.assert_order(True, mill, (0,))
        self.assert_order(True, mill, (1,))
        self.assert_order(True, mill, (98,))
        self.assert_order(True, mill, (99,))
        self.assert_order(False, mill, (100,))
        self.assert_order(False, mill, (-100,))
        self.assert_order(False, mill, (10 ** 30,))

    def test_each_count_keeps_the_bounds(self):
        mill = a_mill(widths=[45, 36, 31])
        self.assert_order(True, mill, (0, 0, 0))
        self.assert_order(True, mill, (99, 99, 99))
        self.assert_order(True, mill, (0, 99, 5))
        for place in range(3):
            for wrong in (-1, 100):
                counts = [5, 5, 5]
                counts[place] = wrong
                self.assert_order(False, mill, tuple(counts))

    def test_the_order_need_not_be_cut_by_the_knives_at_once(self):
        self.assert_order(True, a_mill(widths=[45], knives=1), (99,))


if __name__ == "__main__":
    unittest.main()

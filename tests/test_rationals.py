"""Point 3: fractions in lowest terms, the denominator at least 1, of integers of any size."""

import unittest
from fractions import Fraction

from millrolls.rationals import (
    added, ceiling_of, common_divisor, divided, floor_of, is_less, made, taken, times,
)

# Primes, so that what is in lowest terms is known without dividing.
GREAT = 2 ** 521 - 1
GREATER = 2 ** 607 - 1

SMALL = [made(top, bottom) for top in range(-7, 8) for bottom in range(1, 7)]
VERY_GREAT = [
    (GREAT, GREATER), (-GREAT, GREATER), (GREATER, GREAT), (-GREATER, GREAT),
    (GREAT, 1), (-GREAT, 1), (1, GREAT), (-1, GREAT), (GREATER, 2), (-GREATER, 2),
]


def as_tuple(number):
    return (number.numerator, number.denominator)


def pairs():
    some = SMALL + VERY_GREAT
    return [(first, second) for first in some for second in some]


class FractionCase(unittest.TestCase):
    def assert_fraction(self, told, wanted):
        self.assertIs(type(told), tuple)
        self.assertEqual([type(part) for part in told], [int, int])
        self.assertEqual(told, wanted)


class CommonDivisor(unittest.TestCase):
    def test_of_positive_integers(self):
        self.assertEqual(common_divisor(12, 18), 6)
        self.assertEqual(common_divisor(18, 12), 6)
        self.assertEqual(common_divisor(7, 7), 7)
        self.assertEqual(common_divisor(8, 9), 1)
        self.assertEqual(common_divisor(1, 100), 1)
        self.assertEqual(common_divisor(5, 100), 5)

    def test_with_0(self):
        self.assertEqual(common_divisor(0, 0), 0)
        self.assertEqual(common_divisor(0, 9), 9)
        self.assertEqual(common_divisor(9, 0), 9)
        self.assertEqual(common_divisor(0, -9), 9)
        self.assertEqual(common_divisor(-9, 0), 9)

    def test_with_negative_integers(self):
        self.assertEqual(common_divisor(-12, 18), 6)
        self.assertEqual(common_divisor(12, -18), 6)
        self.assertEqual(common_divisor(-12, -18), 6)
        self.assertEqual(common_divisor(-1, -1), 1)

    def test_it_is_the_greatest_that_divides_both(self):
        for first in range(-24, 25):
            for second in range(-24, 25):
                if first == 0 and second == 0:
                    continue
                divides = [k for k in range(1, 25) if first % k == 0 and second % k == 0]
                self.assertEqual(common_divisor(first, second), divides[-1], (first, second))

    def test_of_very_great_integers(self):
        self.assertEqual(common_divisor(GREAT * 12, GREATER * 18), 6)
        self.assertEqual(common_divisor(GREAT * GREATER, GREAT * 5), GREAT)
        self.assertEqual(common_divisor(-GREAT * GREATER, GREATER), GREATER)
        self.assertEqual(common_divisor(0, -GREAT), GREAT)
        self.assertEqual(common_divisor(GREAT, 1), 1)


class Made(FractionCase):
    def test_lowest_terms(self):
        self.assert_fraction(made(6, 4), (3, 2))
        self.assert_fraction(made(4, 6), (2, 3))
        self.assert_fraction(made(3, 2), (3, 2))
        self.assert_fraction(made(8, 4), (2, 1))
        self.assert_fraction(made(5, 5), (1, 1))
        self.assert_fraction(made(7, 1), (7, 1))

    def test_negative_tops_and_bottoms(self):
        self.assert_fraction(made(-6, 4), (-3, 2))
        self.assert_fraction(made(6, -4), (-3, 2))
        self.assert_fraction(made(-6, -4), (3, 2))
        self.assert_fraction(made(1, -1), (-1, 1))
        self.assert_fraction(made(-1, -1), (1, 1))
        self.assert_fraction(made(-3, 7), (-3, 7))

    def test_0(self):
        for bottom in (1, 2, 9, -1, -2, -9, GREAT, -GREAT):
            self.assert_fraction(made(0, bottom), (0, 1))

    def test_all_small_ones(self):
        for top in range(-20, 21):
            for bottom in range(-20, 21):
                if bottom != 0:
                    self.assert_fraction(made(top, bottom), as_tuple(Fraction(top, bottom)))

    def test_very_great_ones(self):
        self.assert_fraction(made(GREAT * GREATER * 6, GREAT * 4), (GREATER * 3, 2))
        self.assert_fraction(made(GREAT * GREATER * 6, -GREAT * 4), (-GREATER * 3, 2))
        self.assert_fraction(made(-GREAT, -GREAT * GREATER), (1, GREATER))
        self.assert_fraction(made(GREAT, GREATER), (GREAT, GREATER))
        self.assert_fraction(made(GREAT, -GREATER), (-GREAT, GREATER))
        self.assert_fraction(made(10 ** 400 + 1, 1), (10 ** 400 + 1, 1))


class Sums(FractionCase):
    def test_added(self):
        self.assert_fraction(added((1, 2), (1, 3)), (5, 6))
        self.assert_fraction(added((1, 6), (1, 3)), (1, 2))
        self.assert_fraction(added((1, 2), (1, 2)), (1, 1))
        self.assert_fraction(added((1, 2), (-1, 2)), (0, 1))
        self.assert_fraction(added((-1, 2), (-1, 3)), (-5, 6))
        self.assert_fraction(added((0, 1), (-3, 4)), (-3, 4))
        self.assert_fraction(added((2, 1), (3, 1)), (5, 1))

    def test_taken_is_the_first_one_less_the_second_one(self):
        self.assert_fraction(taken((1, 2), (1, 3)), (1, 6))
        self.assert_fraction(taken((1, 3), (1, 2)), (-1, 6))
        self.assert_fraction(taken((5, 6), (1, 3)), (1, 2))
        self.assert_fraction(taken((1, 2), (-1, 2)), (1, 1))
        self.assert_fraction(taken((1, 2), (1, 2)), (0, 1))
        self.assert_fraction(taken((0, 1), (3, 4)), (-3, 4))

    def test_against_all_pairs(self):
        for first, second in pairs():
            one, other = Fraction(*first), Fraction(*second)
            self.assert_fraction(added(first, second), as_tuple(one + other))
            self.assert_fraction(taken(first, second), as_tuple(one - other))

    def test_very_great_ones(self):
        self.assert_fraction(added((GREAT, 1), (1, GREAT)), (GREAT * GREAT + 1, GREAT))
        self.assert_fraction(added((1, GREAT), (-1, GREAT)), (0, 1))
        self.assert_fraction(taken((1, GREAT), (1, GREATER)), (GREATER - GREAT, GREAT * GREATER))


class Products(FractionCase):
    def test_times(self):
        self.assert_fraction(times((2, 3), (3, 4)), (1, 2))
        self.assert_fraction(times((2, 3), (5, 7)), (10, 21))
        self.assert_fraction(times((-2, 3), (3, 4)), (-1, 2))
        self.assert_fraction(times((-2, 3), (-3, 2)), (1, 1))
        self.assert_fraction(times((0, 1), (-3, 4)), (0, 1))
        self.assert_fraction(times((4, 1), (1, 2)), (2, 1))

    def test_divided(self):
        self.assert_fraction(divided((1, 2), (3, 4)), (2, 3))
        self.assert_fraction(divided((3, 4), (1, 2)), (3, 2))
        self.assert_fraction(divided((2, 3), (2, 3)), (1, 1))
        self.assert_fraction(divided((0, 1), (3, 4)), (0, 1))
        self.assert_fraction(divided((-1, 2), (3, 4)), (-2, 3))

    def test_divided_by_a_negative_fraction(self):
        self.assert_fraction(divided((1, 2), (-3, 4)), (-2, 3))
        self.assert_fraction(divided((-1, 2), (-3, 4)), (2, 3))
        self.assert_fraction(divided((0, 1), (-3, 4)), (0, 1))
        self.assert_fraction(divided((5, 1), (-1, 1)), (-5, 1))

    def test_against_all_pairs(self):
        for first, second in pairs():
            one, other = Fraction(*first), Fraction(*second)
            self.assert_fraction(times(first, second), as_tuple(one * other))
            if second[0] != 0:
                self.assert_fraction(divided(first, second), as_tuple(one / other))

    def test_very_great_ones(self):
        self.assert_fraction(times((GREAT, GREATER), (GREATER, GREAT)), (1, 1))
        self.assert_fraction(times((GREAT, 3), (-3, GREATER)), (-GREAT, GREATER))
        self.assert_fraction(divided((GREAT, 3), (-GREAT, 2)), (-2, 3))
        self.assert_fraction(divided((1, GREAT), (1, GREATER)), (GREATER, GREAT))


class Less(unittest.TestCase):
    def test_is_less(self):
        self.assertIs(is_less((1, 3), (1, 2)), True)
        self.assertIs(is_less((1, 2), (1, 3)), False)
        self.assertIs(is_less((-1, 2), (-1, 3)), True)
        self.assertIs(is_less((-1, 3), (-1, 2)), False)
        self.assertIs(is_less((-1, 3), (1, 2)), True)
        self.assertIs(is_less((1, 2), (-1, 3)), False)
        self.assertIs(is_less((0, 1), (1, 9)), True)
        self.assertIs(is_less((-1, 9), (0, 1)), True)

    def test_one_is_not_less_than_itself(self):
        for one in SMALL + VERY_GREAT:
            self.assertIs(is_less(one, one), False)

    def test_against_all_pairs(self):
        for first, second in pairs():
            wanted = Fraction(*first) < Fraction(*second)
            self.assertIs(is_less(first, second), wanted, (first, second))

    def test_very_great_ones_that_differ_little(self):
        self.assertIs(is_less((GREAT - 1, GREAT), (GREAT, GREAT + 1)), True)
        self.assertIs(is_less((GREAT, GREAT + 1), (GREAT - 1, GREAT)), False)
        self.assertIs(is_less((10 ** 400, 1), (10 ** 400 + 1, 1)), True)


class Rounding(unittest.TestCase):
    def assert_rounded(self, one, below, above):
        for told, wanted in ((floor_of(one), below), (ceiling_of(one), above)):
            self.assertIs(type(told), int)
            self.assertEqual(told, wanted, one)

    def test_above_0(self):
        self.assert_rounded((7, 2), 3, 4)
        self.assert_rounded((1, 2), 0, 1)
        self.assert_rounded((1, 9), 0, 1)
        self.assert_rounded((8, 9), 0, 1)
        self.assert_rounded((10, 9), 1, 2)

    def test_below_0(self):
        self.assert_rounded((-7, 2), -4, -3)
        self.assert_rounded((-1, 2), -1, 0)
        self.assert_rounded((-1, 9), -1, 0)
        self.assert_rounded((-8, 9), -1, 0)
        self.assert_rounded((-10, 9), -2, -1)

    def test_whole_ones(self):
        for whole in (-9, -1, 0, 1, 9, GREAT, -GREAT):
            self.assert_rounded((whole, 1), whole, whole)

    def test_all_small_ones(self):
        for one in SMALL:
            below = max(k for k in range(-10, 11) if k * one[1] <= one[0])
            above = min(k for k in range(-10, 11) if k * one[1] >= one[0])
            self.assert_rounded(one, below, above)

    def test_very_great_ones(self):
        self.assert_rounded((GREAT * 2 + 1, 2), GREAT, GREAT + 1)
        self.assert_rounded((-GREAT * 2 - 1, 2), -GREAT - 1, -GREAT)
        self.assert_rounded((1, GREAT), 0, 1)
        self.assert_rounded((-1, GREAT), -1, 0)
        self.assert_rounded((GREAT * GREATER - 1, GREAT), GREATER - 1, GREATER)
        self.assert_rounded((1 - GREAT * GREATER, GREAT), -GREATER, 1 - GREATER)


if __name__ == "__main__":
    unittest.main()

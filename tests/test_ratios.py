"""Ratios [4]: products, quotients, order and numbers."""

import random
import unittest
from fractions import Fraction

from heldtones.ratios import fraction, is_greater, over, times

# Pairs (less, greater) that are near to one another.
NEAR = [
    ((0, 0, 0), (-4, 4, -1)),       # 81 by 80
    ((11, -4, -2), (-4, 4, -1)),    # 2048 by 2025, 81 by 80
    ((0, 0, 0), (11, -4, -2)),
    ((0, 0, 0), (-15, 8, 1)),       # 32805 by 32768
    ((-15, 8, 1), (11, -4, -2)),
    ((0, 0, 0), (-19, 12, 0)),      # the comma of twelve fifths
    ((0, 0, 0), (54, -37, 2)),
    ((0, 0, 0), (-84, 53, 0)),
    ((0, 0, 0), (161, -84, -12)),   # less than nine millionths
]


def number(ratio):
    return Fraction(2) ** ratio[0] * Fraction(3) ** ratio[1] * Fraction(5) ** ratio[2]


def drawn(source, most):
    return tuple(source.randint(-most, most) for _ in range(3))


class TimesAndOverTest(unittest.TestCase):
    def test_ordinary(self):
        self.assertEqual(times((1, 2, 3), (10, 20, 30)), (11, 22, 33))
        self.assertEqual(over((1, 2, 3), (10, 21, 32)), (-9, -19, -29))
        self.assertEqual(over((10, 21, 32), (1, 2, 3)), (9, 19, 29))

    def test_one_changes_nothing(self):
        for ratio in [(0, 0, 0), (-1, 1, 0), (200, -200, 7)]:
            self.assertEqual(times(ratio, (0, 0, 0)), ratio)
            self.assertEqual(times((0, 0, 0), ratio), ratio)
            self.assertEqual(over(ratio, (0, 0, 0)), ratio)
            self.assertEqual(over(ratio, ratio), (0, 0, 0))

    def test_bounds(self):
        high, low = (200, 200, 200), (-200, -200, -200)
        self.assertEqual(times(high, high), (400, 400, 400))
        self.assertEqual(over(low, high), (-400, -400, -400))
        self.assertEqual(times(high, low), (0, 0, 0))

    def test_are_tuples_of_three_integers(self):
        for told in [times((1, 0, 0), (0, 0, 1)), over((1, 0, 0), (0, 0, 1))]:
            self.assertIs(type(told), tuple)
            self.assertEqual([type(part) for part in told], [int, int, int])

    def test_by_name(self):
        self.assertEqual(times(one=(1, 2, 3), other=(1, 1, 1)), (2, 3, 4))
        self.assertEqual(over(other=(1, 1, 1), one=(1, 2, 4)), (0, 1, 3))

    def test_as_numbers(self):
        source = random.Random(1)
        for _ in range(200):
            one, other = drawn(source, 200), drawn(source, 200)
            self.assertEqual(number(times(one, other)), number(one) * number(other))
            self.assertEqual(number(over(one, other)), number(one) / number(other))


class FractionTest(unittest.TestCase):
    def test_ordinary(self):
        for ratio, told in [
            ((0, 0, 0), (1, 1)), ((1, 0, 0), (2, 1)), ((0, 1, 0), (3, 1)), ((0, 0, 1), (5, 1)),
            ((-1, 0, 0), (1, 2)), ((0, -1, 0), (1, 3)), ((0, 0, -1), (1, 5)),
            ((3, 2, 1), (360, 1)), ((-3, -2, -1), (1, 360)), ((-4, 4, -1), (81, 80)),
            ((11, -4, -2), (2048, 2025)), ((4, -1, -1), (16, 15)),
        ]:
            self.assertEqual(fraction(ratio), told)
            self.assertEqual(fraction(ratio=ratio), told)

    def test_is_a_tuple_of_two_integers(self):
        self.assertIs(type(fraction((0, 0, 0))), tuple)
        for ratio in [(0, 0, 0), (-3, 2, 5)]:
            self.assertEqual([type(part) for part in fraction(ratio)], [int, int])

    def test_bounds(self):
        self.assertEqual(fraction((200, -200, 200)), (2 ** 200 * 5 ** 200, 3 ** 200))
        self.assertEqual(fraction((-200, -200, -200)), (1, 30 ** 200))

    def test_large_exponents_such_as_long_songs_have(self):
        self.assertEqual(fraction((-40000, 40000, 39999)), (3 * 15 ** 39999, 2 ** 40000))

    def test_lowest_terms(self):
        source = random.Random(2)
        for _ in range(200):
            ratio = drawn(source, 30)
            told = number(ratio)
            self.assertEqual(fraction(ratio), (told.numerator, told.denominator))


class IsGreaterTest(unittest.TestCase):
    def check(self, less, greater):
        self.assertIs(is_greater(greater, less), True)
        self.assertIs(is_greater(less, greater), False)

    def test_ordinary(self):
        self.check((-1, 1, 0), (1, 0, 0))
        self.check((1, 0, 0), (0, 1, 0))
        self.check((0, 1, 0), (0, 0, 1))
        self.check((0, 0, 1), (1, 1, 0))
        self.check((-9, 0, 0), (0, 0, 0))
        self.check((99, -99, 0), (0, 0, 0))

    def test_equal(self):
        for ratio in [(0, 0, 0), (-1, 1, 0), (200, 200, -200)]:
            self.assertIs(is_greater(ratio, ratio), False)

    def test_near(self):
        for less, greater in NEAR:
            self.assertLess(number(less), number(greater))
            self.check(less, greater)

    def test_near_at_the_bounds(self):
        # The same quotients, of numbers that are themselves very large or very small.
        for less, greater in NEAR:
            far = tuple(-200 if a + b > 0 else 200 for a, b in zip(less, greater))
            self.check(times(less, far), times(greater, far))
        self.check((-200, -200, -200), (200, 200, 200))
        self.check((-200, 200, -200), (200, -200, 200))

    def test_by_name(self):
        self.assertIs(is_greater(other=(0, 0, 0), one=(-4, 4, -1)), True)
        self.assertIs(is_greater(one=(0, 0, 0), other=(-4, 4, -1)), False)

    def test_as_numbers(self):
        source = random.Random(3)
        for most in (1, 3, 200):
            for _ in range(150):
                one, other = drawn(source, most), drawn(source, most)
                self.assertIs(is_greater(one, other), number(one) > number(other))


if __name__ == "__main__":
    unittest.main()

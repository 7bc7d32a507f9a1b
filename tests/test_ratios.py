"""Promise 10: ratios."""

import math
import unittest
from fractions import Fraction

from surefoot.errors import FootError, NoRatio
from surefoot.ratios import middle, minus, order_of, plus, ratio, times

GREAT = 2 ** 400 - 1
RATIOS = [
    (0, 1), (1, 1), (-1, 1), (1, 2), (-1, 2), (2, 3), (-7, 3), (5, 6), (3, 10), (12, 1),
    (GREAT, 1), (-GREAT, 1), (1, GREAT), (GREAT, GREAT - 1), (-(GREAT - 1), GREAT),
]


def as_tuple(value):
    return (value.numerator, value.denominator)


def pairs():
    return [(one, other) for one in RATIOS for other in RATIOS]


class Telling(unittest.TestCase):
    def test_lowest_terms(self):
        self.assertEqual(ratio(6, 4), (3, 2))
        self.assertEqual(ratio(4, 6), (2, 3))
        self.assertEqual(ratio(10, 5), (2, 1))
        self.assertEqual(ratio(7, 7), (1, 1))
        self.assertEqual(ratio(3, 5), (3, 5))

    def test_signs(self):
        self.assertEqual(ratio(-6, 4), (-3, 2))
        self.assertEqual(ratio(6, -4), (-3, 2))
        self.assertEqual(ratio(-6, -4), (3, 2))
        self.assertEqual(ratio(5, -1), (-5, 1))

    def test_nought(self):
        for under in (1, -1, 12, -12, GREAT, -GREAT):
            self.assertEqual(ratio(0, under), (0, 1))

    def test_great_numbers(self):
        self.assertEqual(ratio(GREAT * 6, GREAT * 4), (3, 2))
        self.assertEqual(ratio(GREAT, -GREAT), (-1, 1))
        self.assertEqual(ratio(GREAT, GREAT - 1), (GREAT, GREAT - 1))
        self.assertEqual(ratio(2 ** 399, 2 ** 398), (2, 1))
        self.assertEqual(ratio(1, -GREAT), (-1, GREAT))

    def test_all_little_ones(self):
        for top in range(-30, 31):
            for under in list(range(-30, 0)) + list(range(1, 31)):
                told = ratio(top, under)
                self.assertEqual(told, as_tuple(Fraction(top, under)))
                self.assertEqual(math.gcd(*told), 1)
                self.assertGreater(told[1], 0)

    def test_a_tuple_of_two_whole_numbers(self):
        for told in (ratio(0, -3), ratio(-8, 6), ratio(GREAT, 3)):
            self.assertIs(type(told), tuple)
            self.assertEqual([type(number) for number in told], [int, int])

    def test_no_ratio_over_0(self):
        for top in (0, 1, -1, 5, GREAT, -GREAT):
            with self.assertRaises(FootError) as taken:
                ratio(top, 0)
            self.assertIs(type(taken.exception), NoRatio)


class Reckoning(unittest.TestCase):
    def check(self, told, value):
        self.assertIs(type(told), tuple)
        self.assertEqual(told, as_tuple(value))

    def test_plus(self):
        self.assertEqual(plus((1, 2), (1, 3)), (5, 6))
        self.assertEqual(plus((1, 6), (1, 3)), (1, 2))
        self.assertEqual(plus((1, 2), (-1, 2)), (0, 1))
        for one, other in pairs():
            self.check(plus(one, other), Fraction(*one) + Fraction(*other))

    def test_minus(self):
        self.assertEqual(minus((1, 2), (1, 3)), (1, 6))
        self.assertEqual(minus((0, 1), (1, 3)), (-1, 3))
        for one, other in pairs():
            self.check(minus(one, other), Fraction(*one) - Fraction(*other))
        for one in RATIOS:
            self.assertEqual(minus(one, one), (0, 1))

    def test_times(self):
        self.assertEqual(times((2, 3), (3, 4)), (1, 2))
        self.assertEqual(times((-2, 3), (0, 1)), (0, 1))
        for one, other in pairs():
            self.check(times(one, other), Fraction(*one) * Fraction(*other))

    def test_middle(self):
        self.assertEqual(middle((1, 1), (2, 1)), (3, 2))
        self.assertEqual(middle((-1, 1), (1, 1)), (0, 1))
        self.assertEqual(middle((1, 2), (1, 3)), (5, 12))
        for one, other in pairs():
            self.check(middle(one, other), (Fraction(*one) + Fraction(*other)) / 2)
        for one in RATIOS:
            self.assertEqual(middle(one, one), one)

    def test_order_of(self):
        self.assertEqual(order_of((1, 3), (1, 2)), -1)
        self.assertEqual(order_of((1, 2), (1, 3)), 1)
        self.assertEqual(order_of((-1, 2), (-1, 3)), -1)
        self.assertEqual(order_of((GREAT, GREAT - 1), (GREAT - 1, GREAT - 2)), -1)
        for one, other in pairs():
            ahead = Fraction(*one) - Fraction(*other)
            told = order_of(one, other)
            self.assertEqual(told, (ahead > 0) - (ahead < 0))
            self.assertIs(type(told), int)
        for one in RATIOS:
            self.assertEqual(order_of(one, one), 0)


if __name__ == "__main__":
    unittest.main()

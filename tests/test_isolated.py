"""Promise 20: real roots told apart, each between two ratios."""

import math
import unittest

from samples import (
    GREAT, KNOWN, Known, drawn, joined, plain_counts, plain_primitive, plain_value, power_factor, product, ratio_factor,
)

from surefoot.errors import FootError, TooGreat
from surefoot.isolating import is_alone, isolated, refined
from surefoot.polys import square_free
from surefoot.ratios import order_of


class Pairs(unittest.TestCase):
    def check_shape(self, poly, pairs):
        self.assertIs(type(pairs), list)
        for pair in pairs:
            self.assertEqual((type(pair), len(pair)), (tuple, 2))
            for given in pair:
                self.assertEqual([type(given)] + [type(number) for number in given], [tuple, int, int])
                self.assertEqual((len(given), math.gcd(*given)), (2, 1))
                self.assertGreater(given[1], 0)
            if pair[0] != pair[1]:
                self.assertEqual(order_of(*pair), -1)
                self.assertNotEqual(plain_value(poly, pair[0]), 0)
                self.assertNotEqual(plain_value(poly, pair[1]), 0)
        for pair, following in zip(pairs, pairs[1:]):
            self.assertLessEqual(order_of(pair[1], following[0]), 0)

    def check_about(self, pair, numbers, k):
        """The pair is about the number at k of the numbers, and about no other one."""
        for place, number in enumerate(numbers):
            sides = (number.above(pair[0]), number.above(pair[1]))
            if place != k:
                self.assertIn(sides, ((1, 1), (-1, -1)))
            else:
                self.assertEqual(sides, (0, 0) if pair[0] == pair[1] else (1, -1))

    def check(self, poly, numbers):
        pairs = isolated(poly)
        self.check_shape(poly, pairs)
        self.assertEqual(len(pairs), len(numbers))
        for k, pair in enumerate(pairs):
            self.check_about(pair, numbers, k)

    def test_products_of_known_factors(self):
        for poly, numbers in KNOWN:
            with self.subTest(poly=poly):
                self.check(poly, numbers)

    def test_either_sign_and_common_divisors(self):
        for poly, numbers in KNOWN:
            for scale in (-1, 6, -GREAT):
                self.check([scale * number for number in poly], numbers)

    def test_whole_numbers_have_no_pairs(self):
        for number in (1, -1, 2, -12, GREAT, -GREAT):
            self.assertEqual(isolated([number]), [])

    def test_no_real_root(self):
        for poly in ([1, 0, 1], [GREAT, 0, GREAT], [1] * 13, [-1, 1, -1], product(*[[1, 1, 1]] * 6)):
            self.assertEqual(isolated(poly), [])

    def test_all_of_degree_1(self):
        for top in range(-9, 10):
            for under in range(1, 20):
                self.check([-top, under], [Known(plain_value([0, 1], (top, under)))])

    def test_all_little_quadratics(self):
        for last in (-3, -2, -1, 1, 2, 3, 4):
            for mid in range(-5, 6):
                for first in range(-5, 6):
                    under = mid * mid - 4 * last * first
                    self.assertEqual(len(isolated([first, mid, last])), 1 + (under > 0) - (under < 0))

    def test_drawn_ones_against_plain_counts(self):
        for seed in range(120):
            poly = product(drawn(seed, seed % 7, 1 + seed % 10), drawn(seed + 500, seed % 5, 3))
            pairs = isolated(poly)
            self.check_shape(poly, pairs)
            count = plain_counts(poly)
            self.assertEqual(count((-10 ** 9, 1), (10 ** 9, 1)), len(pairs))
            for pair in pairs:
                self.assertTrue(pair[0] == pair[1] or count(*pair) == 1)
                self.assertTrue(pair[0] != pair[1] or plain_value(poly, pair[0]) == 0)

    def test_drawn_ones_with_great_numbers(self):
        for seed in range(3):
            for row in (drawn(seed, 12, GREAT), drawn(seed, 11, GREAT) + [1], [1] + drawn(seed, 11, GREAT)):
                pairs = isolated(row)
                self.check_shape(row, pairs)
                count = plain_counts(row)
                self.assertEqual(count((-GREAT - 1, 1), (GREAT + 1, 1)), len(pairs))
                self.assertEqual([count(*pair) for pair in pairs], [1] * len(pairs))

    def test_two_roots_much_nearer_than_any_number_handed_in(self):
        # Near to 1 / great there are two roots, and the ratio itself lies between them.
        great = 2 ** 199
        poly = [-1, 2 * great, -great * great] + [0] * 9 + [1]
        pairs = isolated(poly)
        self.check_shape(poly, pairs)
        self.assertEqual(len(pairs), 4)
        count = plain_counts(poly)
        self.assertEqual([count(*pair) for pair in pairs], [1] * 4)
        self.assertLessEqual(order_of(pairs[1][0], (1, great)), 0)
        self.assertGreaterEqual(order_of(pairs[2][1], (1, great)), 0)

    def test_roots_as_far_out_as_the_numbers_allow(self):
        # The one root above 0 is nearly twice as great as the other numbers, by their places, would let one think.
        for reach in (1, 2, 16, 2 ** 33):
            row = [-reach ** (12 - power) for power in range(12)] + [1]
            for poly in (row, [number * (-1) ** power for power, number in enumerate(row)]):
                pairs = isolated(poly)
                self.check_shape(poly, pairs)
                self.assertEqual(len(pairs), 2)
                count = plain_counts(poly)
                self.assertEqual([count(*pair) for pair in pairs], [1, 1])

    def test_beside_a_root_that_is_a_ratio_with_a_given_under(self):
        # Whatever ratios the roots are looked for with, none of them may be told as the end of another root's pair.
        for under in (1, 2, 3, 4, 5, 6, 7, 8, 9, 12, 16, 105):
            factors = [ratio_factor(top, under) for top in range(-3, 4)]
            self.check(*joined(*factors, power_factor(2, 2), power_factor(3, 3)))


class Alone(unittest.TestCase):
    """Told of narrow pairs alone, but never where it isn't so."""

    def test_one_root_between(self):
        for poly, low, high in (
            ([-2, 0, 1], (1, 1), (3, 2)), ([-2, 0, 1], (-3, 2), (-1, 1)), ([-2, 0, 1], (0, 1), (9, 1)),
            ([-1, 2], (0, 1), (1, 1)), ([0, -1, 0, 1], (-1, 2), (1, 3)), ([2, 0, -1], (1, 1), (2, 1)),
            ([-1, 0, 4], (1, 3), (7, 3)),
        ):
            self.assertTrue(is_alone(poly, (low, high)))

    def test_none_or_more_between_or_one_at_an_end(self):
        for poly, low, high in (
            ([-2, 0, 1], (3, 2), (2, 1)), ([-2, 0, 1], (-2, 1), (2, 1)), ([-2, 0, 1], (-1, 1), (1, 1)),
            ([0, -1, 0, 1], (-1, 1), (1, 2)), ([0, -1, 0, 1], (-1, 2), (1, 1)), ([0, -1, 0, 1], (-1, 1), (1, 1)),
            ([0, -1, 0, 1], (0, 1), (3, 2)), ([0, -1, 0, 1], (1, 2), (1, 1)), ([-1, 2], (1, 2), (1, 1)),
            ([-1, 2], (0, 1), (1, 2)), ([-6, 11, -6, 1], (1, 2), (7, 2)), ([1, 0, 1], (-1, 1), (1, 1)),
        ):
            self.assertFalse(is_alone(poly, (low, high)))

    def test_against_plain_counts(self):
        ends = [(top, under) for under in (1, 2, 3) for top in range(-9, 10) if math.gcd(top, under) == 1]
        for seed in range(12):
            poly = drawn(seed, seed % 6 + 1, 9)
            if len(isolated(poly)) == 0 or plain_primitive(square_free(poly)) != plain_primitive(poly):
                continue
            between = plain_counts(poly)
            for low in ends:
                for high in ends:
                    if order_of(low, high) < 0 and is_alone(poly, (low, high)):
                        self.assertEqual(between(low, high), 1)
                        self.assertTrue(plain_value(poly, low) and plain_value(poly, high))

    def test_of_narrow_pairs(self):
        for poly, numbers in KNOWN:
            free = square_free(poly)
            for pair in isolated(poly):
                self.assertTrue(is_alone(free, refined(poly, pair, (1, 2 ** 900))))


class Refused(unittest.TestCase):
    def check(self, poly):
        before = list(poly)
        with self.assertRaises(FootError) as taken:
            isolated(poly)
        self.assertIs(type(taken.exception), TooGreat)
        self.assertEqual(poly, before)

    def test_degrees_above_12(self):
        for power in (13, 14, 15, 40):
            self.check([-1] + [0] * (power - 1) + [1])
            self.check([0] * power + [1])
            self.check([0] * power + [-GREAT])
            self.check(drawn(power, power, GREAT))
            self.check([1] + [0] * (power - 1) + [6])

    def test_few_unlike_roots_don_t_help(self):
        self.check(product(*[[-1, 1]] * 13))
        self.check(product(*[[-2, 0, 1]] * 7))

    def test_degree_12_is_not_refused(self):
        self.assertEqual(len(isolated([-1] + [0] * 11 + [1])), 2)
        self.assertEqual(len(isolated([0] * 12 + [-5])), 1)
        self.assertEqual(len(isolated([1] + [0] * 11 + [1])), 0)


if __name__ == "__main__":
    unittest.main()

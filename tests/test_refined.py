"""Promise 21: pairs drawn together, and roots counted."""

import unittest
from fractions import Fraction

from samples import GREAT, KNOWN, drawn, joined, plain_counts, plain_value, power_factor, product, ratio_factor

from surefoot.isolating import counted_in, isolated, refined
from surefoot.ratios import order_of

WIDTHS = [(10, 1), (3, 2), (1, 1), (1, 2), (1, 3), (7, 1000), (1, 2 ** 60), (1, GREAT)]


class Refined(unittest.TestCase):
    def check(self, poly, pair, width, number):
        told = refined(poly, pair, width)
        self.assertEqual([type(told), type(told[0]), type(told[1])], [tuple] * 3)
        self.assertEqual(len(told), 2)
        low, high = [Fraction(*given) for given in told]
        self.assertEqual(told, tuple((given.numerator, given.denominator) for given in (low, high)))
        self.assertGreaterEqual(order_of(told[0], pair[0]), 0)
        self.assertLessEqual(order_of(told[1], pair[1]), 0)
        self.assertLessEqual(high - low, Fraction(*width))
        if low == high:
            self.assertEqual(number.above(low), 0)
        else:
            self.assertEqual((number.above(low), number.above(high)), (1, -1))
            self.assertNotEqual(plain_value(poly, told[0]), 0)
            self.assertNotEqual(plain_value(poly, told[1]), 0)
        return told

    def test_each_width(self):
        for poly, numbers in KNOWN:
            for pair, number in zip(isolated(poly), numbers):
                for width in WIDTHS:
                    self.check(poly, pair, width, number)

    def test_what_refined_told(self):
        for poly, numbers in KNOWN:
            for pair, number in zip(isolated(poly), numbers):
                told = pair
                for width in WIDTHS:
                    told = self.check(poly, told, width, number)

    def test_narrow_enough_already(self):
        for poly, numbers in KNOWN:
            for pair, number in zip(isolated(poly), numbers):
                told = self.check(poly, pair, (1, 2 ** 70), number)
                for width in WIDTHS[:-1]:
                    self.check(poly, told, width, number)

    def test_just_wide_enough_and_just_too_wide(self):
        poly, numbers = joined(power_factor(2, 2))
        pair = ((1, 1), (3, 2))
        self.check(poly, pair, (1, 2), numbers[1])
        self.check(poly, pair, (GREAT - 1, 2 * GREAT), numbers[1])

    def test_the_root_itself(self):
        for poly in ([-3, 2], product([-3, 2], [-3, 2]), product([-3, 2], [-2, 0, 1]), product([-3, 2], [3, -4])):
            for width in WIDTHS:
                self.assertEqual(refined(poly, ((3, 2), (3, 2)), width), ((3, 2), (3, 2)))
        self.assertEqual(refined([0, 0, -5], ((0, 1), (0, 1)), (1, 9)), ((0, 1), (0, 1)))

    def test_roots_in_the_middle_and_at_quarters(self):
        for top in range(1, 16):
            for power in (1, 2, 3):
                poly, numbers = joined(*[ratio_factor(top, 16)] * power)
                for width in WIDTHS:
                    self.check(poly, ((0, 1), (1, 1)), width, numbers[0])

    def test_roots_near_to_an_end(self):
        for apart in (1, 2, 2 ** 50):
            poly, numbers = joined(ratio_factor(apart, GREAT), ratio_factor(-1))
            for width in WIDTHS:
                self.check(poly, ((0, 1), (1, 1)), width, numbers[1])
                self.check(poly, ((0, 1), (GREAT, 1)), width, numbers[1])

    def test_a_flat_stretch(self):
        poly, numbers = joined(power_factor(11, Fraction(1, GREAT)))
        for width in WIDTHS:
            self.check(poly, ((-1, 7), (GREAT, 2)), width, numbers[0])


class Counted(unittest.TestCase):
    def test_above_the_one_and_not_above_the_other(self):
        poly = product([-1, 1], [-2, 1], [-7, 2])
        for low, high, many in (
            ((1, 1), (2, 1), 1), ((0, 1), (1, 1), 1), ((0, 1), (2, 1), 2), ((1, 1), (7, 2), 2), ((2, 1), (3, 1), 0),
            ((7, 2), (9, 1), 0), ((0, 1), (9, 1), 3), ((1, 2), (7, 2), 3), ((-5, 1), (1, 2), 0), ((3, 1), (7, 2), 1),
        ):
            self.assertEqual(counted_in(poly, low, high), many, (low, high))
            self.assertIs(type(counted_in(poly, low, high)), int)

    def test_the_same_ratio_twice(self):
        for poly, numbers in KNOWN:
            for given in ((0, 1), (1, 1), (3, 2), (-2, 3), (-GREAT, 3)):
                self.assertEqual(counted_in(poly, given, given), 0)

    def test_roots_that_come_twice_are_counted_once(self):
        poly = product(*[[-1, 1]] * 4, *[[-2, 0, 1]] * 3, [0, 0, 1])
        self.assertEqual(counted_in(poly, (-9, 1), (9, 1)), 4)
        self.assertEqual(counted_in(poly, (0, 1), (9, 1)), 2)
        self.assertEqual(counted_in(poly, (-9, 1), (0, 1)), 2)
        self.assertEqual(counted_in(poly, (0, 1), (1, 1)), 1)
        self.assertEqual(counted_in(poly, (1, 1), (9, 1)), 1)

    def test_whole_numbers(self):
        for number in (1, -1, 12, -GREAT):
            self.assertEqual(counted_in([number], (-GREAT, 1), (GREAT, 1)), 0)

    def test_known_roots(self):
        ends = [Fraction(-GREAT), Fraction(-9), Fraction(-1), Fraction(-1, 2), Fraction(0), Fraction(1, GREAT)]
        ends += [Fraction(2, 3), Fraction(1), Fraction(7, 5), Fraction(3, 2), Fraction(2), Fraction(GREAT)]
        for poly, numbers in KNOWN:
            for k, low in enumerate(ends):
                for high in ends[k:]:
                    many = sum(number.above(low) > 0 and number.above(high) <= 0 for number in numbers)
                    told = counted_in(poly, low.as_integer_ratio(), high.as_integer_ratio())
                    self.assertEqual(told, many)

    def test_ends_at_the_roots_and_by_a_hair_beside_them(self):
        for under in (1, 3, 2 ** 199):
            roots = [Fraction(top, under) for top in (-5, -1, 0, 2, 7)]
            poly = product(*[[-root.numerator, root.denominator] for root in roots], [-5, 0, 0, 1], [1, 0, 1])
            hair = Fraction(1, GREAT)
            ends = [root + apart for root in roots for apart in (-hair, 0, hair)]
            cubed = [end for end in ends if end ** 3 < 5]
            for k, low in enumerate(ends):
                for high in ends[k:]:
                    many = sum(low < root <= high for root in roots) + (low in cubed and high not in cubed)
                    told = counted_in(poly, low.as_integer_ratio(), high.as_integer_ratio())
                    self.assertEqual(told, many)

    def test_degrees_above_12(self):
        self.assertEqual(counted_in(product(*[[-root, 1] for root in range(1, 41)]), (0, 1), (40, 1)), 40)
        self.assertEqual(counted_in(product(*[[-root, 1] for root in range(1, 41)]), (7, 1), (77, 2)), 31)
        self.assertEqual(counted_in(product(*[[-2, 1]] * 40), (0, 1), (2, 1)), 1)
        self.assertEqual(counted_in([-1] + [0] * 39 + [1], (-1, 1), (1, 1)), 1)
        self.assertEqual(counted_in([-1] + [0] * 39 + [1], (-2, 1), (1, 1)), 2)
        self.assertEqual(counted_in([1] + [0] * 39 + [1], (-GREAT, 1), (GREAT, 1)), 0)

    def test_drawn_ones_against_plain_counts(self):
        for seed in range(60):
            poly = product(drawn(seed, seed % 8, 1 + seed % 9), drawn(seed + 700, seed % 6, 4))
            count = plain_counts(poly)
            ends = [Fraction(top, under) for top in range(-4, 5) for under in (1, 3)]
            ends = sorted(set(ends))
            for k, low in enumerate(ends):
                for high in ends[k::3]:
                    pair = (low.as_integer_ratio(), high.as_integer_ratio())
                    self.assertEqual(counted_in(poly, *pair), count(*pair))

    def test_powers_of_x_with_gaps(self):
        # The degrees along the chain fall by more than 1 here.
        for gap in (2, 3, 4, 5):
            for seed in range(12):
                row = drawn(seed, 7, 9)
                poly = [0] * (gap * 7 + 1)
                poly[::gap] = row
                count = plain_counts(poly)
                for pair in (((-9, 1), (0, 1)), ((-1, 1), (1, 1)), ((0, 1), (9, 1)), ((-5, 4), (3, 2))):
                    self.assertEqual(counted_in(poly, *pair), count(*pair))

    def test_great_numbers_of_degree_40(self):
        linear = [-GREAT, GREAT - 2]
        shared = product(linear, *[[1, 0, 3]] * 19, [1, 1])
        self.assertEqual(counted_in(shared, (1, 1), (GREAT, GREAT - 2)), 1)
        self.assertEqual(counted_in(shared, (1, 1), (GREAT + 1, GREAT)), 0)
        self.assertEqual(counted_in(shared, (-GREAT, 1), (GREAT, 1)), 2)
        poly = drawn(3, 40, GREAT)
        low, middle, high = (-GREAT, 1), (1, GREAT), (GREAT, 1)
        parts = counted_in(poly, low, middle) + counted_in(poly, middle, high)
        self.assertEqual(parts, counted_in(poly, low, high))
        self.assertEqual(parts % 2, (plain_value(poly, low) * plain_value(poly, high) < 0))


if __name__ == "__main__":
    unittest.main()

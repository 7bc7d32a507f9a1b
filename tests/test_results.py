"""The polynomials that have the sums, products and so on of others' roots, held against roots that are known."""

import unittest
from fractions import Fraction

from samples import GREAT, drawn, plain_primitive, product

from surefoot.results import inverses_of, opposites_of, products_of, roots_of, sums_of, whole_root

ROWS = [
    [Fraction(2)], [Fraction(-3, 7)], [Fraction(1), Fraction(-1)], [Fraction(1, 2), Fraction(1, 2)],
    [Fraction(0), Fraction(5, 3)], [Fraction(1, 6), Fraction(-2), Fraction(3, 4)],
    [Fraction(GREAT, 5), Fraction(-7, GREAT)], [Fraction(0), Fraction(1), Fraction(2), Fraction(-9, 10)],
    [Fraction(top, 3) for top in range(-2, 4)],
]


def with_roots(row):
    return plain_primitive(product(*[[-root.numerator, root.denominator] for root in row]))


class Results(unittest.TestCase):
    def test_sums(self):
        for one in ROWS:
            for other in ROWS:
                sought = with_roots([left + right for left in one for right in other])
                self.assertEqual(sums_of(with_roots(one), with_roots(other)), sought)

    def test_products(self):
        for one in ROWS:
            for other in ROWS:
                if [Fraction(0)] not in (one, other):
                    sought = with_roots([left * right for left in one for right in other])
                    self.assertEqual(products_of(with_roots(one), with_roots(other)), sought)

    def test_roots_that_are_not_real(self):
        # The roots of the first are i and -i, of the second the root of 2 and its opposite.
        self.assertEqual(sums_of([1, 0, 1], [-2, 0, 1]), [9, 0, -2, 0, 1])
        self.assertEqual(products_of([1, 0, 1], [-2, 0, 1]), [4, 0, 4, 0, 1])
        self.assertEqual(sums_of([1, 0, 1], [1, 0, 1]), [0, 0, 4, 0, 1])

    def test_with_the_ratio_ahead_and_behind(self):
        for seed in range(4):
            poly = plain_primitive(drawn(seed, 5, 2 ** 60))
            for linear in ([-3, 2], [7, 5], [-GREAT, 1]):
                self.assertEqual(sums_of(poly, linear), sums_of(linear, poly))
                self.assertEqual(products_of(poly, linear), products_of(linear, poly))
            self.assertEqual(sums_of([0, 1], poly), poly)
            self.assertEqual(products_of([-1, 1], poly), poly)

    def test_opposites_and_inverses(self):
        for row in ROWS:
            self.assertEqual(opposites_of(with_roots(row)), with_roots([-root for root in row]))
            self.assertEqual(inverses_of(with_roots(row)), with_roots([1 / root for root in row if root]))

    def test_roots(self):
        self.assertEqual(roots_of([-2, 1], 1), [-2, 1])
        self.assertEqual(roots_of([-2, 1], 3), [-2, 0, 0, 1])
        self.assertEqual(roots_of([5, 0, -7, 3], 2), [5, 0, 0, 0, -7, 0, 3])
        self.assertEqual(roots_of([0, -7, 3], 4), [-7, 0, 0, 0, 3])
        self.assertEqual(roots_of([0, -7, 3], 1), [-7, 3])

    def test_whole_roots(self):
        for many in range(1, 13):
            for number in list(range(70)) + [GREAT, 2 ** 360, 2 ** 360 - 1, 10 ** 300 + 1]:
                told = whole_root(number, many)
                self.assertLessEqual(told ** many, number)
                self.assertGreater((told + 1) ** many, number)


if __name__ == "__main__":
    unittest.main()

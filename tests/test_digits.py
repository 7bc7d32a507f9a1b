"""Promise 31: near and decimal."""

import math
import re
import unittest
from fractions import Fraction

from samples import GREAT, KNOWN, Known, product

from surefoot.field import added_to, inverse, less, multiplied_by, near, opposite, root_of
from surefoot.numbers import compared, nth, of_ratio, roots
from surefoot.texts import decimal

WIDTHS = [(5, 1), (GREAT, 1), (3, 2), (1, 1), (1, 2), (2, 7), (1, 1000), (1, 2 ** 60), (3, 2 ** 60), (1, GREAT)]
RATIOS = [
    (0, 1), (1, 1), (-1, 1), (1, 2), (-1, 2), (1, 3), (-1, 3), (7, 5), (-7, 3), (99, 100), (-99, 100), (-1, 10 ** 30),
    (1, 10 ** 30), (1, 10 ** 31), (-1, 10 ** 31), (GREAT, 1), (-GREAT, 1), (1, GREAT), (-1, GREAT), (GREAT, GREAT - 1),
    (-5, 1), (10, 1), (-10, 1), (-100, 1), (1, 8), (-1, 8), (123456789, 1000), (-123456789, 1000),
]


def numbers():
    """Numbers, and what is known of them."""
    found = [(of_ratio(given), Known(Fraction(*given))) for given in RATIOS]
    for poly, known in KNOWN:
        found.extend(zip(roots(poly), known))
    return found


def plain_decimal(known, digits):
    floor = int(known.rounded(10 ** digits) * 10 ** digits)
    whole, rest = divmod(abs(floor), 10 ** digits)
    return ("-" if floor < 0 else "") + str(whole) + ("." + str(rest).rjust(digits, "0") if digits else "")


class Near(unittest.TestCase):
    def check(self, number, width):
        told = near(number, width)
        self.assertIs(type(told), tuple)
        self.assertEqual(len(told), 2)
        for given in told:
            self.assertIs(type(given), tuple)
            self.assertEqual([type(part) for part in given], [int, int])
            self.assertEqual(given, Fraction(*given).as_integer_ratio())
        self.assertLessEqual(Fraction(*told[1]) - Fraction(*told[0]), Fraction(*width))
        return told

    def test_ratios_and_others(self):
        for number, known in numbers():
            for width in WIDTHS:
                low, high = self.check(number, width)
                self.assertGreaterEqual(known.above(low), 0)
                self.assertLessEqual(known.above(high), 0)

    def test_results(self):
        two, cube = nth([-2, 0, 1], 1), nth([-2, 0, 0, 1], 0)
        for number in (
            added_to(two, cube), less(cube, two), multiplied_by(opposite(two), cube), inverse(less(two, cube)),
            root_of(added_to(two, cube), 2), less(two, two), added_to(of_ratio((GREAT, 3)), two),
        ):
            for width in WIDTHS:
                low, high = self.check(number, width)
                self.assertGreaterEqual(compared(number, of_ratio(low)), 0)
                self.assertLessEqual(compared(number, of_ratio(high)), 0)


class Decimals(unittest.TestCase):
    def test_known_ones(self):
        for number, known in numbers():
            for digits in (0, 1, 2, 3, 7, 12, 29, 30):
                told = decimal(number, digits)
                self.assertIs(type(told), str)
                self.assertEqual(told, plain_decimal(known, digits))

    def test_all_counts_of_digits(self):
        for number, known in (
            (nth([-2, 0, 1], 0), Known(0, -1, 2, 2)), (nth([-2, 0, 1], 1), Known(0, 1, 2, 2)),
            (of_ratio((-22, 7)), Known(Fraction(-22, 7))), (of_ratio((1, 1024)), Known(Fraction(1, 1024))),
        ):
            for digits in range(31):
                told = decimal(number, digits)
                self.assertEqual(told, plain_decimal(known, digits))
                self.assertRegex(told, r"^-?(0|[1-9][0-9]*)" + (r"\.[0-9]{%d}$" % digits if digits else "$"))

    def test_forms(self):
        two = nth([-2, 0, 1], 1)
        for number, digits, text in (
            (of_ratio((0, 1)), 0, "0"), (of_ratio((0, 1)), 3, "0.000"),
            (of_ratio((5, 1)), 0, "5"), (of_ratio((-5, 1)), 0, "-5"), (of_ratio((-5, 1)), 2, "-5.00"),
            (of_ratio((1, 2)), 0, "0"), (of_ratio((1, 2)), 1, "0.5"), (of_ratio((1, 2)), 2, "0.50"),
            (of_ratio((-1, 2)), 0, "-1"), (of_ratio((-1, 2)), 1, "-0.5"), (of_ratio((-1, 2)), 2, "-0.50"),
            (of_ratio((1, 3)), 0, "0"), (of_ratio((1, 3)), 2, "0.33"), (of_ratio((-1, 3)), 2, "-0.34"),
            (of_ratio((-1, 300)), 2, "-0.01"), (of_ratio((-1, 300)), 1, "-0.1"), (of_ratio((1, 300)), 1, "0.0"),
            (of_ratio((-1, 10 ** 30)), 30, "-0." + "0" * 29 + "1"), (of_ratio((-1, 10 ** 31)), 0, "-1"),
            (of_ratio((1999, 1000)), 2, "1.99"), (of_ratio((-1999, 1000)), 2, "-2.00"),
            (of_ratio((100, 1)), 1, "100.0"), (of_ratio((1000001, 10)), 3, "100000.100"),
            (two, 0, "1"), (two, 1, "1.4"), (two, 4, "1.4142"), (opposite(two), 0, "-2"),
            (opposite(two), 1, "-1.5"), (opposite(two), 4, "-1.4143"),
            (less(two, of_ratio((3, 2))), 0, "-1"), (less(two, of_ratio((3, 2))), 1, "-0.1"),
            (less(two, of_ratio((3, 2))), 3, "-0.086"), (less(of_ratio((3, 2)), two), 1, "0.0"),
            (nth([-2, 0, 10 ** 12], 1), 5, "0.00000"), (nth([-2, 0, 10 ** 12], 0), 5, "-0.00001"),
            (less(two, two), 2, "0.00"), (multiplied_by(two, opposite(two)), 1, "-2.0"),
        ):
            self.assertEqual(decimal(number, digits), text)

    def test_numbers_that_are_decimals(self):
        for top in (1, 7, 10, 99, 123, 4567, 10 ** 20 + 1):
            for digits in (1, 2, 5, 30):
                for sign in (1, -1):
                    number = of_ratio(Fraction(sign * top, 10 ** digits).as_integer_ratio())
                    for more in range(0, 3):
                        self.assertEqual(Fraction(decimal(number, digits + more)), Fraction(sign * top, 10 ** digits))

    def test_roots_that_are_decimals(self):
        low, mean, high = roots(product([-5, 4], [5, 4], [0, 1]))
        self.assertEqual([decimal(number, 2) for number in (low, mean, high)], ["-1.25", "0.00", "1.25"])
        self.assertEqual([decimal(number, 1) for number in (low, mean, high)], ["-1.3", "0.0", "1.2"])

    def test_by_a_hair_beside_decimals(self):
        for digits in (0, 1, 5, 30):
            unit = 10 ** digits
            square = 7 * 7 * unit * unit
            below, above = roots([1 - square, 0, unit * unit]), roots([-1 - square, 0, unit * unit])
            self.assertEqual(Fraction(decimal(below[1], digits)), 7 - Fraction(1, unit))
            self.assertEqual(Fraction(decimal(below[0], digits)), -7)
            self.assertEqual(Fraction(decimal(above[1], digits)), 7)
            self.assertEqual(Fraction(decimal(above[0], digits)), -7 - Fraction(1, unit))

    def test_very_long_ones(self):
        # More figures than Python writes at once.
        for many in (4000, 4299, 4300, 4301, 9000):
            for top in (10 ** many, 10 ** many - 1, 7 * 10 ** many + 3):
                figures = decimal(of_ratio((-top, 1)), 2)
                self.assertTrue(re.fullmatch(r"-[1-9][0-9]*\.00", figures))
                self.assertEqual(len(figures), len("-.00") + many + (1 if top >= 10 ** many else 0))
                whole = 0
                for start in range(1, len(figures) - 3, 1000):
                    part = figures[start:min(start + 1000, len(figures) - 3)]
                    whole = whole * 10 ** len(part) + int(part)
                self.assertEqual(whole, top)

    def test_more_than_30_digits(self):
        self.assertEqual(decimal(nth([-2, 0, 1], 1), 50), "1." + str(math.isqrt(2 * 10 ** 100))[1:])


if __name__ == "__main__":
    unittest.main()

"""Promise 12: divisors, quotients, roots each once, signs."""

import unittest
from fractions import Fraction

from samples import GREAT, drawn, plain_divisor, plain_division, plain_primitive, plain_value, product

from surefoot.polys import derivative, divisor_of, quotient, sign_at, square_free


class Divisors(unittest.TestCase):
    def check(self, one, other, sought):
        self.assertEqual(divisor_of(one, other), sought)
        self.assertEqual(divisor_of(other, one), sought)

    def test_with_a_common_divisor(self):
        self.check([-1, 0, 1], [1, 1], [1, 1])
        self.check([-1, 0, 1], [1, 2, 1], [1, 1])
        self.check([0, 0, 1], [0, 1, 1], [0, 1])
        self.check(product([1, 2], [3, 5]), product([1, 2], [7, 5]), [1, 2])

    def test_without_one(self):
        self.check([-1, 1], [1, 1], [1])
        self.check([1, 0, 1], [-1, 0, 1], [1])
        self.check([-2, 0, 1], [2, 0, 1], [1])

    def test_contents_don_t_count(self):
        self.check([2, 2], [4, 4], [1, 1])
        self.check([6], [4], [1])
        self.check([2, 4], [3, 6], [1, 2])
        self.check([6, 6], [6, 0, 6], [1])

    def test_signs_either_way(self):
        for one in ([-1, 0, 1], [1, 0, -1]):
            for other in ([3, 3], [-3, -3]):
                self.check(one, other, [1, 1])
        self.check([1, -1], [2, -2], [-1, 1])

    def test_nought_with_another(self):
        self.check([], [4, 6], [2, 3])
        self.check([], [4, -6], [-2, 3])
        self.check([], [-5], [1])
        self.check([], [0, 0, 7], [0, 0, 1])

    def test_nought_twice(self):
        self.assertEqual(divisor_of([], []), [])

    def test_whole_numbers(self):
        self.check([6], [-9], [1])
        self.check([6], [6, 12], [1])
        self.check([GREAT], [GREAT], [1])

    def test_one_with_itself(self):
        for poly in ([7], [3, -6], drawn(5, 12, 50), drawn(6, 40, GREAT)):
            self.assertEqual(divisor_of(poly, poly), plain_primitive(poly))

    def test_drawn_ones_against_plain_division(self):
        for seed in range(60):
            size = (1, 2, 9, 10 ** 6)[seed % 4]
            shared = drawn(seed, seed % 5, size)
            one = product(shared, drawn(seed + 100, seed % 4, size))
            other = product(shared, drawn(seed + 200, seed % 7, size))
            self.check(one, other, plain_divisor(one, other))

    def test_values_that_share_more_than_the_polynomials(self):
        # Rows of neighbouring roots have at each whole number values with a large common divisor.
        one = product(*[[-root, 1] for root in range(0, 12)])
        other = product(*[[-root, 1] for root in range(12, 24)])
        self.check(one, other, [1])
        self.check(product(one, [5, 3]), product(other, [5, 3]), [5, 3])

    def test_values_one_of_which_divides_the_other(self):
        # At some power of 2 the one's value divides the other's, or the other's is 0.
        for shift in range(1, 200):
            for apart in (2 ** shift, -(2 ** shift)):
                self.check([0, 1], [apart, 1], [1])
                self.check([0, 3, 3], product([apart, 1], [1, 1]), [1, 1])

    def test_divisors_with_greater_numbers_than_the_two(self):
        whole = [-1] + [0] * 104 + [1]
        lesser = [product([-1] + [0] * (power - 1) + [1]) for power in (15, 21, 35)]
        shared = whole
        for poly in lesser:
            shared = quotient(shared, plain_divisor(shared, poly))
        self.assertEqual((len(shared), min(shared)), (49, -2))
        self.check(whole, product(shared, [3, 1]), shared)

    def test_great_numbers_of_degree_40(self):
        shared = plain_primitive(drawn(7, 20, 2 ** 190))
        one = product(shared, drawn(8, 20, 2 ** 190))
        other = product(shared, drawn(9, 20, 2 ** 190))
        self.check(one, other, shared)
        self.check(drawn(10, 40, GREAT), drawn(11, 40, GREAT), [1])
        self.check(product([-1, 1], drawn(12, 39, GREAT)), product([-1, 1], drawn(13, 39, GREAT)), [-1, 1])


class Quotients(unittest.TestCase):
    def test_quotient(self):
        self.assertEqual(quotient([-1, 0, 1], [1, 1]), [-1, 1])
        self.assertEqual(quotient([0, 0, 4], [0, 2]), [0, 1])
        self.assertEqual(quotient([3, 4], [3, 4]), [1])
        self.assertEqual(quotient([7], [-3]), [1])
        self.assertEqual(quotient([4, -6], [1]), [-2, 3])

    def test_ratios_ahead_of_primitive(self):
        self.assertEqual(quotient([1, 1], [2, 2]), [1])
        self.assertEqual(quotient([-1, 0, 1], [3, 3]), [-1, 1])
        self.assertEqual(quotient(product([1, 2], [1, 3]), [5, 15]), [1, 2])
        self.assertEqual(quotient([1, 2], [GREAT]), [1, 2])

    def test_signs_either_way(self):
        for one in ([-1, 0, 1], [1, 0, -1]):
            for other in ([1, 1], [-1, -1]):
                self.assertEqual(quotient(one, other), [-1, 1])

    def test_drawn_ones_against_plain_division(self):
        for seed in range(40):
            other = drawn(seed, seed % 6, 12)
            one = product(other, drawn(seed + 300, seed % 5, 12))
            self.assertEqual(quotient(one, other), plain_primitive(plain_division(one, other)[0]))

    def test_great_numbers(self):
        other = drawn(14, 20, GREAT)
        further = drawn(15, 20, GREAT)
        self.assertEqual(quotient(product(other, further), other), plain_primitive(further))


class SquareFree(unittest.TestCase):
    def test_products_of_powers(self):
        self.assertEqual(square_free([0, 0, 0, 1]), [0, 1])
        self.assertEqual(square_free([1, 2, 1]), [1, 1])
        self.assertEqual(square_free(product([-1, 1], [-1, 1], [2, 1])), [-2, 1, 1])
        one, other, third = [1, 2], [1, 0, 1], [-3, 0, 0, 5]
        row = product(one, one, one, other, other, third, [-12])
        self.assertEqual(square_free(row), product(one, other, third))

    def test_roots_that_aren_t_real(self):
        self.assertEqual(square_free(product([1, 0, 1], [1, 0, 1])), [1, 0, 1])
        self.assertEqual(square_free(product([1, 0, 1], [1, 0, 1], [1, 1])), product([1, 0, 1], [1, 1]))

    def test_whole_numbers(self):
        for number in (1, -1, 6, -6, GREAT):
            self.assertEqual(square_free([number]), [1])

    def test_no_root_twice(self):
        self.assertEqual(square_free([-2, 0, 1]), [-2, 0, 1])
        self.assertEqual(square_free([4, 0, -2]), [-2, 0, 1])
        self.assertEqual(square_free([3, -6]), [-1, 2])
        self.assertEqual(square_free([0, 5]), [0, 1])
        self.assertEqual(square_free(drawn(16, 40, GREAT)), plain_primitive(drawn(16, 40, GREAT)))

    def test_a_high_power(self):
        self.assertEqual(square_free(product(*[[-2, 3]] * 40)), [-2, 3])
        self.assertEqual(square_free(product(*[drawn(17, 10, 2 ** 90)] * 4)), plain_primitive(drawn(17, 10, 2 ** 90)))

    def test_drawn_ones(self):
        for seed in range(30):
            one = drawn(seed, 1 + seed % 3, 9)
            row = product(*[one] * (1 + seed % 4), drawn(seed + 400, seed % 4, 9))
            told = square_free(row)
            self.assertEqual(told, plain_primitive(plain_division(row, plain_divisor(row, derivative(row)))[0]))
            self.assertEqual(plain_divisor(told, derivative(told)), [1])


class Signs(unittest.TestCase):
    def test_nought_and_whole_numbers(self):
        for given in ((0, 1), (1, 2), (-GREAT, 1)):
            self.assertEqual(sign_at([], given), 0)
            self.assertEqual(sign_at([5], given), 1)
            self.assertEqual(sign_at([-5], given), -1)

    def test_at_roots_and_beside_them(self):
        poly = [-1, 2]
        self.assertEqual(sign_at(poly, (1, 2)), 0)
        self.assertEqual(sign_at(poly, (GREAT + 1, 2 * GREAT)), 1)
        self.assertEqual(sign_at(poly, (GREAT - 1, 2 * GREAT)), -1)
        self.assertEqual(sign_at([-2, 0, 1], (141421356, 10 ** 8)), -1)
        self.assertEqual(sign_at([-2, 0, 1], (141421357, 10 ** 8)), 1)

    def test_at_0(self):
        self.assertEqual(sign_at([0, 3], (0, 1)), 0)
        self.assertEqual(sign_at([-1, 3, 3], (0, 1)), -1)
        self.assertEqual(sign_at([1, -3, -3], (0, 1)), 1)

    def test_below_0(self):
        self.assertEqual(sign_at([0, 1], (-1, 3)), -1)
        self.assertEqual(sign_at([0, 0, 1], (-1, 3)), 1)
        self.assertEqual(sign_at([1, 3], (-1, 3)), 0)
        self.assertEqual(sign_at([1, 3], (-2, 3)), -1)
        self.assertEqual(sign_at([1, 3], (-1, 4)), 1)

    def test_great_numbers(self):
        poly = product([-GREAT, GREAT - 1], drawn(18, 39, 2 ** 200))
        self.assertEqual(sign_at(poly, (GREAT, GREAT - 1)), 0)
        for given in ((GREAT, 1), (-GREAT, 1), (1, GREAT), (-1, GREAT), (GREAT - 1, GREAT), (1 - GREAT, GREAT)):
            value = plain_value(poly, given)
            self.assertEqual(sign_at(poly, given), (value > 0) - (value < 0))

    def test_drawn_ones_against_plain_values(self):
        for seed in range(30):
            poly = drawn(seed, seed % 8, 10)
            for top in range(-12, 13):
                for under in (1, 2, 3, 7):
                    given = Fraction(top, under)
                    value = plain_value(poly, (top, under))
                    told = sign_at(poly, (given.numerator, given.denominator))
                    self.assertEqual(told, (value > 0) - (value < 0))
                    self.assertIs(type(told), int)


if __name__ == "__main__":
    unittest.main()

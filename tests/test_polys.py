"""Promise 11: polynomials."""

import unittest

from samples import GREAT, drawn, product

from surefoot.polys import added, content, degree, derivative, multiplied, primitive, scaled, trimmed

LITTLE = [[], [1], [-1], [6], [0, 1], [0, -2], [1, 1], [-1, 1], [4, 0, -6], [0, 0, 9], [3, 0, 0, 5]]
GREATS = [[GREAT], [GREAT, -GREAT], [-GREAT, 0, 1], drawn(1, 40, GREAT), drawn(2, 40, GREAT), drawn(3, 7, GREAT)]


class Shape(unittest.TestCase):
    def test_trimmed(self):
        self.assertEqual(trimmed([1, 2, 0, 0]), [1, 2])
        self.assertEqual(trimmed([0, 0, 3]), [0, 0, 3])
        self.assertEqual(trimmed([0, 5, 0, -1, 0]), [0, 5, 0, -1])
        self.assertEqual(trimmed([GREAT, 0]), [GREAT])

    def test_trimmed_of_noughts_and_of_nothing(self):
        self.assertEqual(trimmed([0]), [])
        self.assertEqual(trimmed([0] * 50), [])
        self.assertEqual(trimmed([]), [])

    def test_trimmed_leaves_a_polynomial_as_it_is(self):
        for poly in LITTLE + GREATS:
            self.assertEqual(trimmed(poly), poly)

    def test_degree(self):
        self.assertEqual(degree([]), -1)
        self.assertEqual(degree([7]), 0)
        self.assertEqual(degree([0, 0, 1]), 2)
        self.assertEqual(degree(drawn(4, 40, GREAT)), 40)


class Sums(unittest.TestCase):
    def test_added(self):
        self.assertEqual(added([1, 2], [3, 4, 5]), [4, 6, 5])
        self.assertEqual(added([3, 4, 5], [1, 2]), [4, 6, 5])
        self.assertEqual(added([], [0, 1]), [0, 1])
        self.assertEqual(added([0, 1], []), [0, 1])
        self.assertEqual(added([], []), [])

    def test_added_where_the_greatest_powers_fall_away(self):
        self.assertEqual(added([1, 2, 3], [1, 2, -3]), [2, 4])
        self.assertEqual(added([1, 2, 3], [1, -2, -3]), [2])
        self.assertEqual(added([1, 2, 3], [-1, -2, -3]), [])
        self.assertEqual(added([GREAT, -GREAT], [1, GREAT]), [GREAT + 1])

    def test_added_number_by_number(self):
        for one in LITTLE + GREATS:
            for other in LITTLE + GREATS:
                told = added(one, other)
                self.assertTrue(told == [] or told[-1] != 0)
                for power in range(45):
                    number = sum(poly[power] for poly in (one, other) if power < len(poly))
                    self.assertEqual(told[power] if power < len(told) else 0, number)

    def test_scaled(self):
        self.assertEqual(scaled([1, -2, 3], 4), [4, -8, 12])
        self.assertEqual(scaled([1, -2, 3], -1), [-1, 2, -3])
        self.assertEqual(scaled([1, -2, 3], 1), [1, -2, 3])
        self.assertEqual(scaled([GREAT, 1], GREAT), [GREAT * GREAT, GREAT])

    def test_scaled_by_0_and_of_nought(self):
        for poly in LITTLE + GREATS:
            self.assertEqual(scaled(poly, 0), [])
        self.assertEqual(scaled([], 5), [])
        self.assertEqual(scaled([], 0), [])


class Products(unittest.TestCase):
    def test_multiplied(self):
        self.assertEqual(multiplied([1, 1], [-1, 1]), [-1, 0, 1])
        self.assertEqual(multiplied([0, 2], [0, 0, -3]), [0, 0, 0, -6])
        self.assertEqual(multiplied([5], [1, 2]), [5, 10])
        self.assertEqual(multiplied([GREAT, 1], [-GREAT, 1]), [-GREAT * GREAT, 0, 1])

    def test_multiplied_by_nought(self):
        for poly in LITTLE + GREATS:
            self.assertEqual(multiplied(poly, []), [])
            self.assertEqual(multiplied([], poly), [])

    def test_multiplied_either_way(self):
        for one in LITTLE + GREATS:
            for other in LITTLE + GREATS:
                self.assertEqual(multiplied(one, other), product(one, other))

    def test_derivative(self):
        self.assertEqual(derivative([5, 3, 2, 1]), [3, 4, 3])
        self.assertEqual(derivative([0, 0, 0, -7]), [0, 0, -21])
        self.assertEqual(derivative([1, 0, 0, 0, GREAT]), [0, 0, 0, 4 * GREAT])
        self.assertEqual(derivative([9, 4]), [4])

    def test_derivative_of_nought_and_of_whole_numbers(self):
        self.assertEqual(derivative([]), [])
        for number in (1, -1, GREAT):
            self.assertEqual(derivative([number]), [])


class Contents(unittest.TestCase):
    def test_content(self):
        self.assertEqual(content([4, 6]), 2)
        self.assertEqual(content([-4, 6]), 2)
        self.assertEqual(content([6, 10, 15]), 1)
        self.assertEqual(content([0, 0, 9]), 9)
        self.assertEqual(content([12]), 12)

    def test_content_s_sign_is_the_last_one_s(self):
        self.assertEqual(content([4, -6]), -2)
        self.assertEqual(content([-4, -6]), -2)
        self.assertEqual(content([-12]), -12)
        self.assertEqual(content([1, -1]), -1)

    def test_content_of_nought(self):
        self.assertEqual(content([]), 0)

    def test_content_of_great_numbers(self):
        self.assertEqual(content([GREAT * 6, 0, GREAT * -4]), GREAT * -2)
        self.assertEqual(content([GREAT, GREAT - 1]), 1)

    def test_primitive(self):
        self.assertEqual(primitive([4, 6]), [2, 3])
        self.assertEqual(primitive([4, 0, -6]), [-2, 0, 3])
        self.assertEqual(primitive([-4, -6]), [2, 3])
        self.assertEqual(primitive([1, -1]), [-1, 1])
        self.assertEqual(primitive([-8]), [1])
        self.assertEqual(primitive([8]), [1])
        self.assertEqual(primitive([GREAT * 3, GREAT * -2]), [-3, 2])
        self.assertEqual(primitive([2, 3]), [2, 3])

    def test_primitive_of_nought(self):
        self.assertEqual(primitive([]), [])

    def test_primitive_times_content(self):
        for poly in LITTLE + GREATS:
            for factor in (1, -6, GREAT):
                row = [number * factor for number in poly]
                self.assertEqual([number * content(row) for number in primitive(row)], row)
                self.assertEqual(content(primitive(row)), 1 if row else 0)


class Kinds(unittest.TestCase):
    def test_lists_of_whole_numbers(self):
        poly = [2, 0, 4]
        told = [trimmed(poly), added(poly, poly), multiplied(poly, poly), scaled(poly, 3), derivative(poly)]
        for row in told + [primitive(poly), trimmed([]), derivative([]), primitive([])]:
            self.assertIs(type(row), list)
            self.assertTrue(all(type(number) is int for number in row))
        for number in (degree(poly), content(poly), degree([]), content([])):
            self.assertIs(type(number), int)


if __name__ == "__main__":
    unittest.main()

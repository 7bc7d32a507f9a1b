"""Promises 30, 31 and 32: numbers, how they compare, and their weight."""

import math
import unittest
from fractions import Fraction

from samples import (
    GREAT, KNOWN, drawn, joined, plain_derivative, plain_divisor, plain_value, power_factor, product, ratio_factor,
)

from surefoot.errors import FootError, NoNumber, TooGreat
from surefoot.numbers import Root, as_ratio, compared, floor_of, nth, of_ratio, roots, sign_of, weight_of

RATIOS = [
    (0, 1), (1, 1), (-1, 1), (1, 2), (-1, 2), (7, 5), (-7, 3), (12, 1), (-12, 1),
    (GREAT, 1), (-GREAT, 1), (1, GREAT), (-1, GREAT), (GREAT, GREAT - 1), (1 - GREAT, GREAT),
]
TOO_GREAT = [[-1] + [0] * (power - 1) + [1] for power in (13, 14, 15, 40)] + [product(*[[-1, 1]] * 13), [0] * 40 + [-3]]
SQUARE_2 = [-2, 0, 1]


def sign(value):
    return (value > 0) - (value < 0)


def unlike(poly):
    return len(poly) - len(plain_divisor(poly, plain_derivative(poly)))


class Telling(unittest.TestCase):
    def refused(self, kind, poly, k):
        with self.assertRaises(FootError) as taken:
            nth(poly, k)
        self.assertIs(type(taken.exception), kind)

    def test_of_ratio(self):
        for given in RATIOS:
            number = of_ratio(given)
            self.assertIs(type(number), Root)
            self.assertEqual(as_ratio(number), given)
            self.assertIs(type(as_ratio(number)), tuple)

    def test_a_number_is_a_root_of_the_polynomial_that_it_keeps(self):
        told = [of_ratio(given) for given in RATIOS] + [number for poly, known in KNOWN for number in roots(poly)]
        for number in told:
            low, high = [plain_value(number.poly, given) for given in number.pair]
            self.assertEqual(sign(low * high), 0 if as_ratio(number) is not None else -1)

    def test_roots_are_the_known_ones_rising(self):
        for poly, known in KNOWN:
            told = roots(poly)
            self.assertIs(type(told), list)
            self.assertEqual([type(number) for number in told], [Root] * len(known))
            for number, sought in zip(told, known):
                near = sought.rounded()
                step = Fraction(1, 2 ** 1500)
                low, high = [of_ratio((near + apart).as_integer_ratio()) for apart in (0, step)]
                self.assertIn(compared(low, number), (-1, 0))
                self.assertEqual(compared(number, high), -1)
            for number, following in zip(told, told[1:]):
                self.assertEqual(compared(number, following), -1)

    def test_roots_of_whole_numbers(self):
        for number in (1, -1, 6, GREAT):
            self.assertEqual(roots([number]), [])

    def test_nth_at_each_place(self):
        for poly, known in KNOWN:
            told = roots(poly)
            for k, number in enumerate(told):
                self.assertIs(type(nth(poly, k)), Root)
                self.assertEqual(compared(nth(poly, k), number), 0)
                self.assertEqual(weight_of(nth(poly, k)), weight_of(number))
                self.assertEqual(as_ratio(nth(poly, k)), as_ratio(number))

    def test_no_number_at_other_places(self):
        for poly, known in KNOWN:
            for k in (-1, -2, -len(known), -len(known) - 1, -GREAT, len(known), len(known) + 1, 12, 13, GREAT):
                self.refused(NoNumber, poly, k)

    def test_too_great(self):
        for poly in TOO_GREAT:
            with self.assertRaises(FootError) as taken:
                roots(poly)
            self.assertIs(type(taken.exception), TooGreat)
            # TooGreat is named ahead of NoNumber.
            for k in (0, 1, -1, 13, GREAT, -GREAT):
                self.refused(TooGreat, poly, k)

    def test_degree_12_is_not_refused(self):
        poly = [-1] + [0] * 11 + [1]
        self.assertEqual([as_ratio(number) for number in roots(poly)], [(-1, 1), (1, 1)])
        self.assertEqual(as_ratio(nth(poly, 1)), (1, 1))
        self.assertEqual(len(roots([-2] + [0] * 11 + [1])), 2)


class Compared(unittest.TestCase):
    def check(self, one, other, sought):
        for told, right in ((compared(one, other), sought), (compared(other, one), -sought)):
            self.assertEqual(told, right)
            self.assertIs(type(told), int)

    def test_with_itself(self):
        for poly, known in KNOWN:
            for number in roots(poly):
                self.check(number, number, 0)

    def test_ratios(self):
        for one in RATIOS:
            for other in RATIOS:
                self.check(of_ratio(one), of_ratio(other), sign(Fraction(*one) - Fraction(*other)))

    def test_all_roots_with_one_another(self):
        told = [(number, sought) for poly, known in KNOWN for number, sought in zip(roots(poly), known)]
        places = [sought.rounded() for number, sought in told]
        for k, (one, sought) in enumerate(told):
            for j in range(0, k + 1):
                self.check(one, told[j][0], sign(places[k] - places[j]))

    def test_the_same_number_of_another_polynomial(self):
        root = nth(SQUARE_2, 1)
        for factors in (
            ([3, 0, 1],), ([-1, 1],), ([-3, 0, 1], [-7, 5]), (SQUARE_2,), (SQUARE_2, [0, 1]), ([-1, 1], [-3, 2]),
            ([-GREAT, GREAT - 1],), ([12],), ([-1],), ([-2, 0, 0, 1], [-2, 0, 0, 0, 1]), ([-141421356, 10 ** 8],),
            ([2 - 9, 0, 3],), ([2, -4, 1],), (drawn(4, 10, 50),),
        ):
            others = roots(product(SQUARE_2, *factors))
            told = [compared(root, other) for other in others]
            self.assertEqual(told.count(0), 1)
            self.assertEqual(told, sorted(told, reverse=True))
            self.assertEqual([compared(other, root) for other in others], [-side for side in told])

    def test_the_same_number_where_neither_polynomial_divides_the_other(self):
        shared = [-1, -1, 0, 1]
        firsts = roots(product(shared, [-2, 0, 1]))
        others = roots(product(shared, [-3, 0, 1]))
        # The roots in hundredths, so far as telling them apart needs it.
        for one, place in zip(firsts, (-141, 132, 141)):
            for other, further in zip(others, (-173, 132, 173)):
                self.check(one, other, sign(place - further))

    def test_ratios_that_came_as_roots(self):
        number = nth(product([-3, 2], [-2, 0, 1], [-3, 0, 1]), 3)
        self.check(number, of_ratio((3, 2)), 0)
        self.check(number, nth([-3, 2], 0), 0)
        self.check(number, nth(product([-3, 2], [-3, 2]), 0), 0)
        self.check(number, nth(product([-3, 2], [1, 0, 1]), 0), 0)
        self.check(number, of_ratio((3 * GREAT + 1, 2 * GREAT)), -1)
        self.check(number, of_ratio((3 * GREAT - 1, 2 * GREAT)), 1)
        self.check(number, nth(SQUARE_2, 1), 1)
        self.check(number, nth([-3, 0, 1], 1), -1)

    def test_ratios_by_a_hair_beside(self):
        for many in (1, 5, 30, 100, 120, 900):
            under = 10 ** many
            low = math.isqrt(2 * under * under)
            for number in (nth(SQUARE_2, 1), nth(product(SQUARE_2, [-7, 5], [-3, 2]), 2)):
                self.check(number, of_ratio(Fraction(low, under).as_integer_ratio()), 1)
                self.check(number, of_ratio(Fraction(low + 1, under).as_integer_ratio()), -1)

    def test_others_by_a_hair_beside(self):
        root = nth(SQUARE_2, 1)
        for hair in (10 ** 3, 10 ** 30, 2 ** 190, 2 ** 398):
            self.check(root, nth([-2 * hair - 1, 0, hair], 1), -1)
            self.check(root, nth([-2 * hair + 1, 0, hair], 1), 1)
            self.check(nth(SQUARE_2, 0), nth([-2 * hair - 1, 0, hair], 0), 1)
        for great in (2 ** 398, GREAT - 5):
            for power in (2, 3, 7, 12):
                one = roots([-great] + [0] * (power - 1) + [1])[-1]
                other = roots([-great - 1] + [0] * (power - 1) + [1])[-1]
                self.check(one, other, -1)

    def test_two_roots_much_nearer_than_any_number_handed_in(self):
        great = 2 ** 199
        told = roots([-1, 2 * great, -great * great] + [0] * 9 + [1])
        for k in range(4):
            for j in range(4):
                self.check(told[k], told[j], sign(k - j))
        self.check(told[1], of_ratio((1, great)), -1)
        self.check(told[2], of_ratio((1, great)), 1)

    def test_polynomials_that_differ_by_1(self):
        row = drawn(21, 12, GREAT)
        other = list(row)
        other[0] += 1
        for one, shifted in zip(roots(row), roots(other)):
            told = compared(one, shifted)
            self.assertIn(told, (-1, 1))
            self.check(one, shifted, told)

    def test_sign_of(self):
        for given in RATIOS:
            self.assertEqual(sign_of(of_ratio(given)), sign(given[0]))
        for poly, known in KNOWN:
            for number, sought in zip(roots(poly), known):
                self.assertEqual(sign_of(number), sought.above((0, 1)))
                self.assertIs(type(sign_of(number)), int)
        self.assertEqual([sign_of(number) for number in roots([1, -GREAT, 0, 1])], [-1, 1, 1])
        self.assertEqual([sign_of(number) for number in roots([0, -2, 0, 1])], [-1, 0, 1])
        self.assertEqual([sign_of(number) for number in roots([-1, 0, GREAT])], [-1, 1])


class AsRatio(unittest.TestCase):
    def test_ratios_that_came_as_roots(self):
        for given in RATIOS:
            linear = [-given[0], given[1]]
            for others in ((), (linear,), ([1, 0, 1],), ([-2, 0, 1], [-5, 0, 0, 3]), ([-6],)):
                told = [as_ratio(number) for number in roots(product(linear, *others))]
                self.assertEqual([value for value in told if value is not None], [given])

    def test_none_of_others(self):
        for poly in (SQUARE_2, [-2, 0, 0, 1], [1, -3, 1], [-GREAT + 2, 0, 1], [-1, -1, 0, 0, 0, 1], [-5, 0, 4]):
            self.assertTrue(roots(poly))
            for number in roots(poly):
                self.assertIsNone(as_ratio(number))

    def test_ratios_among_others(self):
        poly = product([-2, 0, 1], [-7, 5], [-3, 2], [0, 1], [-1, -1, 0, 1])
        told = [as_ratio(number) for number in roots(poly)]
        self.assertEqual(told, [None, (0, 1), None, (7, 5), None, (3, 2)])

    def test_powers_that_come_out_even(self):
        self.assertEqual([as_ratio(number) for number in roots([-4, 0, 9])], [(-2, 3), (2, 3)])
        self.assertEqual([as_ratio(number) for number in roots([8, 0, 0, 27])], [(-2, 3)])
        great = 2 ** 396
        for first, sought in ((-great, [(-2 ** 33, 1), (2 ** 33, 1)]), (1 - great, [None, None])):
            self.assertEqual([as_ratio(number) for number in roots([first] + [0] * 11 + [1])], sought)

    def test_a_ratio_by_a_hair_beside_another_root(self):
        for under in (10 ** 3, 10 ** 50, 10 ** 115):
            top = math.isqrt(2 * under * under)
            given = Fraction(top, under).as_integer_ratio()
            told = roots(product(SQUARE_2, [-given[0], given[1]]))
            self.assertEqual([as_ratio(number) for number in told], [None, given, None])
            given = Fraction(top + 1, under).as_integer_ratio()
            told = roots(product(SQUARE_2, [-given[0], given[1]]))
            self.assertEqual([as_ratio(number) for number in told], [None, None, given])

    def test_all_little_ones(self):
        tops = [Fraction(top, under) for top in range(-5, 6) for under in range(1, 6)]
        for one in tops:
            for other in tops:
                poly = product([-one.numerator, one.denominator], [-other.numerator, other.denominator], [1, -3, 1])
                told = [as_ratio(number) for number in roots(poly)]
                self.assertEqual(
                    [value for value in told if value is not None],
                    [value.as_integer_ratio() for value in sorted({one, other})],
                )
                self.assertEqual(told.count(None), 2)


class Floors(unittest.TestCase):
    def test_ratios(self):
        for top in range(-20, 21):
            for under in range(1, 8):
                given = Fraction(top, under).as_integer_ratio()
                self.assertEqual(floor_of(of_ratio(given)), top // under)
        for given in RATIOS:
            self.assertEqual(floor_of(of_ratio(given)), given[0] // given[1])
            self.assertIs(type(floor_of(of_ratio(given))), int)

    def test_known_roots(self):
        for poly, known in KNOWN:
            for number, sought in zip(roots(poly), known):
                told = floor_of(number)
                self.assertIs(type(told), int)
                self.assertGreaterEqual(sought.above((told, 1)), 0)
                self.assertEqual(sought.above((told + 1, 1)), -1)

    def test_square_roots_below_and_above_0(self):
        for number in range(1, 200):
            whole = math.isqrt(number)
            below = -whole if whole * whole == number else -whole - 1
            self.assertEqual([floor_of(root) for root in roots([-number, 0, 1])], [below, whole])

    def test_whole_numbers_that_came_as_roots(self):
        poly = product([-3, 1], [4, 1], [-10, 0, 1], [0, 1])
        self.assertEqual([floor_of(number) for number in roots(poly)], [-4, -4, 0, 3, 3])

    def test_by_a_hair_beside_whole_numbers(self):
        for whole in (1, 7, 2 ** 190):
            square = whole * whole
            for hair in (10, 10 ** 4):
                self.assertEqual([floor_of(n) for n in roots([-square * hair - 1, 0, hair])], [-whole - 1, whole])
                self.assertEqual([floor_of(n) for n in roots([-square * hair + 1, 0, hair])], [-whole, whole - 1])
        self.assertEqual([floor_of(n) for n in roots([-1, 0, GREAT])], [-1, 0])
        self.assertEqual([floor_of(n) for n in roots([1 - GREAT, 0, GREAT])], [-1, 0])
        self.assertEqual([floor_of(n) for n in roots([-1 - GREAT, 0, GREAT])], [-2, 1])

    def test_great_ones(self):
        self.assertEqual([floor_of(n) for n in roots([-GREAT, 0, 1])], [-math.isqrt(GREAT) - 1, math.isqrt(GREAT)])
        self.assertEqual(floor_of(nth(product([-GREAT, 1], [1, 0, 1]), 0)), GREAT)
        self.assertEqual(floor_of(nth(product([GREAT, 2], [1, 0, 1]), 0)), -(2 ** 399))


class Weights(unittest.TestCase):
    def test_ratios_however_they_came(self):
        for given in RATIOS:
            self.assertEqual(weight_of(of_ratio(given)), 1)
        for poly in ([-3, 2], product([-3, 2], [-3, 2]), product([-3, 2], SQUARE_2), product([-3, 2], [1, 0, 1])):
            for number in roots(poly):
                if as_ratio(number) is not None:
                    self.assertEqual(weight_of(number), 1)
        self.assertEqual([weight_of(number) for number in roots([-1] + [0] * 11 + [1])], [1, 1])
        self.assertEqual(weight_of(nth([-4, 0, 1], 0)), 1)

    def test_others(self):
        self.assertEqual([weight_of(number) for number in roots(SQUARE_2)], [2, 2])
        self.assertEqual([weight_of(number) for number in roots([-2, 0, 0, 1])], [3])
        self.assertEqual([weight_of(number) for number in roots([-2] + [0] * 11 + [1])], [12, 12])
        self.assertEqual([weight_of(number) for number in roots(product(SQUARE_2, [-1, 1]))], [3, 1, 3])
        self.assertEqual([weight_of(number) for number in roots(product(SQUARE_2, [1, 0, 1]))], [4, 4])

    def test_roots_that_come_twice_count_once(self):
        self.assertEqual([weight_of(number) for number in roots(product(*[SQUARE_2] * 6))], [2, 2])
        poly = product(SQUARE_2, SQUARE_2, [-1, 1], [-1, 1], [-1, 1], [1, 0, 1], [1, 0, 1], [-5])
        self.assertEqual([weight_of(number) for number in roots(poly)], [5, 1, 5])
        self.assertEqual([weight_of(nth(poly, k)) for k in range(3)], [5, 1, 5])

    def test_known_ones(self):
        for poly, known in KNOWN:
            for number in roots(poly):
                self.assertEqual(weight_of(number), 1 if as_ratio(number) is not None else unlike(poly))
                self.assertIs(type(weight_of(number)), int)

    def test_the_same_number_may_have_another_weight(self):
        one = nth(SQUARE_2, 1)
        other = nth(product(SQUARE_2, [5, 0, 1]), 1)
        self.assertEqual(compared(one, other), 0)
        self.assertEqual((weight_of(one), weight_of(other)), (2, 4))


class Joined(unittest.TestCase):
    def test_many_factors(self):
        poly, known = joined(power_factor(3, 2), power_factor(2, 3, 1), ratio_factor(4, 3), ratio_factor(-4, 3))
        told = roots(poly)
        self.assertEqual([as_ratio(number) for number in told], [(-4, 3), None, None, (4, 3), None])
        self.assertEqual([floor_of(number) for number in told], [-2, -1, 1, 1, 2])
        self.assertEqual([weight_of(number) for number in told], [1, 7, 7, 1, 7])


if __name__ == "__main__":
    unittest.main()

"""Promises 40, 41 and 32: sums, differences, products, quotients, powers and roots of numbers, and their weights."""

import unittest
from fractions import Fraction

from samples import GREAT, drawn, joined, power_factor, product, ratio_factor

from surefoot.errors import FootError, NoNumber, NoRatio, TooGreat
from surefoot.field import added_to, inverse, less, multiplied_by, opposite, over, power_of, root_of
from surefoot.numbers import Root, as_ratio, compared, nth, of_ratio, roots, sign_of, weight_of
from surefoot.polys import square_free

BOTH = (added_to, less, multiplied_by, over)
NOUGHT = of_ratio((0, 1))
# Made of little numbers, so that what is a ratio in truth is one with a little under.
POOL = [
    joined(ratio_factor(0)),
    joined(ratio_factor(1)),
    joined(ratio_factor(-7, 5)),
    joined(power_factor(2, 2)),
    joined(power_factor(2, Fraction(9, 2), Fraction(1, 3))),
    joined(power_factor(2, 8), ratio_factor(0)),
    joined(power_factor(2, 2), ratio_factor(1), power_factor(2, -1)),
    joined(power_factor(3, 2)),
    joined(power_factor(3, -16, 2)),
    joined(power_factor(4, 2)),
    joined(power_factor(2, 3), power_factor(3, 5), ratio_factor(0)),
    joined(power_factor(12, 3)),
    joined(*[ratio_factor(top) for top in range(1, 8)], power_factor(5, 2)),
]


def pool():
    """Numbers, with two Fractions hardly apart that have each between them."""
    found = []
    for poly, known in POOL:
        for number, sought in zip(roots(poly), known):
            found.append((number, sought.bounds()))
    return found


def exact(bounds):
    """The ratio with a little under that lies between, if there is one."""
    given = ((bounds[0] + bounds[1]) / 2).limit_denominator(10 ** 9)
    return given.as_integer_ratio() if bounds[0] <= given <= bounds[1] else None


def corners(one, other):
    found = [left * right for left in one for right in other]
    return min(found), max(found)


def plain_result(function, one, other):
    if function is added_to:
        return one[0] + other[0], one[1] + other[1]
    if function is less:
        return one[0] - other[1], one[1] - other[0]
    return corners(one, other if function is multiplied_by else (1 / other[1], 1 / other[0]))


class Checking(unittest.TestCase):
    def check_kept(self, number):
        """What a number keeps is what the other functions build upon."""
        self.assertEqual(square_free(number.poly), number.poly)
        self.assertLessEqual(len(number.poly) - 1, weight_of(number))

    def check_between(self, number, bounds):
        self.assertIs(type(number), Root)
        low, high = [of_ratio(given.as_integer_ratio()) for given in bounds]
        self.assertGreaterEqual(compared(number, low), 0)
        self.assertLessEqual(compared(number, high), 0)

    def check(self, number, bounds, weight):
        self.check_between(number, bounds)
        given = exact(bounds)
        self.assertEqual(as_ratio(number), given)
        self.assertEqual(weight_of(number), weight if given is None else 1)
        self.check_kept(number)

    def same(self, one, other):
        self.assertEqual((compared(one, other), compared(other, one)), (0, 0))

    def refused(self, kind, function, *given):
        with self.assertRaises(FootError) as taken:
            function(*given)
        self.assertIs(type(taken.exception), kind)


class Sums(Checking):
    def test_all_of_the_pool_with_one_another(self):
        found = pool()
        for one, left in found:
            for other, right in found:
                weight = weight_of(one) * weight_of(other)
                for function in BOTH:
                    if function is over and sign_of(other) == 0:
                        self.refused(NoRatio, function, one, other)
                    elif weight > 12:
                        self.refused(TooGreat, function, one, other)
                    else:
                        self.check(function(one, other), plain_result(function, left, right), weight)

    def test_there_and_back(self):
        found = [number for number, bounds in pool()]
        for one in found:
            for other in found:
                if weight_of(one) * weight_of(other) ** 2 > 12:
                    continue
                self.same(less(added_to(one, other), other), one)
                self.same(added_to(less(one, other), other), one)
                self.same(less(other, less(other, one)), one)
                if sign_of(other) != 0:
                    self.same(over(multiplied_by(one, other), other), one)
                    self.same(multiplied_by(over(one, other), other), one)

    def test_either_way_about(self):
        found = [number for number, bounds in pool()]
        for one in found:
            for other in found:
                if weight_of(one) * weight_of(other) <= 12:
                    self.same(added_to(one, other), added_to(other, one))
                    self.same(multiplied_by(one, other), multiplied_by(other, one))
                    self.same(less(one, other), opposite(less(other, one)))

    def test_ratios(self):
        given = [(0, 1), (1, 1), (-1, 1), (3, 2), (-2, 3), (7, 12), (GREAT, GREAT - 2), (-1, GREAT), (-GREAT, 1)]
        for one in given:
            for other in given:
                left, right = Fraction(*one), Fraction(*other)
                sought = [left + right, left - right, left * right]
                for function, result in zip(BOTH, sought + ([left / right] if right else [])):
                    told = function(of_ratio(one), of_ratio(other))
                    self.assertEqual(as_ratio(told), result.as_integer_ratio())
                    self.assertEqual(weight_of(told), 1)
                    self.check_kept(told)

    def test_a_number_with_itself(self):
        for number in (nth([-2, 0, 1], 1), nth([-2, 0, 0, 1], 0), nth([1, 3, 0, 1], 0), nth([0, -GREAT, 0, 1], 0)):
            self.assertEqual(as_ratio(less(number, number)), (0, 1))
            self.assertEqual(as_ratio(over(number, number)), (1, 1))
            self.assertEqual(weight_of(less(number, number)), 1)
            self.assertEqual(weight_of(over(number, number)), 1)
            self.assertEqual(as_ratio(added_to(number, opposite(number))), (0, 1))
            self.assertEqual(as_ratio(multiplied_by(number, inverse(number))), (1, 1))
            self.same(added_to(number, number), multiplied_by(number, of_ratio((2, 1))))
            self.same(less(added_to(number, of_ratio((GREAT, 7))), of_ratio((GREAT, 7))), number)
        for number in (nth([-2, 0, 0, 0, 1], 1), nth([-2] + [0] * 11 + [1], 1)):
            for function in BOTH:
                self.refused(TooGreat, function, number, number)

    def test_ratios_out_of_others(self):
        low, high = roots([1, -3, 1])
        self.assertEqual(as_ratio(added_to(low, high)), (3, 1))
        self.assertEqual(as_ratio(multiplied_by(low, high)), (1, 1))
        self.assertEqual(as_ratio(over(nth([-8, 0, 1], 1), nth([-2, 0, 1], 0))), (-2, 1))
        self.assertEqual(as_ratio(less(nth([-1, -2, 1], 1), nth([-2, 0, 1], 1))), (1, 1))
        self.assertEqual(as_ratio(multiplied_by(nth([-2, 0, 0, 1], 0), nth([-4, 0, 0, 1], 0))), (2, 1))
        self.assertEqual(as_ratio(multiplied_by(nth([-GREAT, 0, 1], 0), nth([-GREAT, 0, 4], 1))), (-GREAT, 2))
        least, mean, greatest = roots([1, -GREAT, 0, 1])
        self.same(added_to(least, mean), opposite(greatest))
        self.same(multiplied_by(least, mean), opposite(inverse(greatest)))

    def test_polynomials_that_have_them(self):
        two, three, cube = nth([-2, 0, 1], 1), nth([-3, 0, 1], 1), nth([-2, 0, 0, 1], 0)
        self.same(added_to(two, three), nth([1, 0, -10, 0, 1], 3))
        self.same(less(two, three), nth([1, 0, -10, 0, 1], 1))
        self.same(multiplied_by(two, three), nth([-6, 0, 1], 1))
        self.same(over(two, three), nth([-2, 0, 3], 1))
        self.same(added_to(two, cube), nth([-4, -24, 12, -4, -6, 0, 1], 1))
        self.same(multiplied_by(two, cube), nth([-32, 0, 0, 0, 0, 0, 1], 1))
        self.same(less(three, two), inverse(added_to(two, three)))

    def test_great_numbers(self):
        several = [roots(drawn(seed, seed % 3 + 2, GREAT)) for seed in range(12)]
        found = [row[0] for row in several if row]
        self.assertGreater(len(found), 5)
        for one, other in zip(found, found[1:]):
            total, parts = added_to(one, other), multiplied_by(one, other)
            self.same(less(total, opposite(of_ratio((3, GREAT)))), added_to(one, added_to(other, of_ratio((3, GREAT)))))
            self.assertEqual(compared(total, one), sign_of(other))
            self.assertEqual(sign_of(parts), sign_of(one) * sign_of(other))
            self.check_kept(total)
            self.check_kept(parts)

    def test_hardly_apart(self):
        great = 2 ** 199
        one, other = nth([-2 * great - 1, 0, great], 1), nth([-2, 0, 1], 1)
        gap = less(one, other)
        self.assertEqual(sign_of(gap), 1)
        self.assertEqual(compared(gap, of_ratio((1, great))), -1)
        self.assertEqual(compared(gap, of_ratio((1, 4 * great))), 1)
        self.same(added_to(gap, other), one)
        self.assertEqual(sign_of(less(over(one, other), of_ratio((1, 1)))), 1)


class Turned(Checking):
    def test_opposite_and_inverse(self):
        for number, bounds in pool():
            turned = opposite(number)
            self.check(turned, (-bounds[1], -bounds[0]), weight_of(number))
            self.same(opposite(turned), number)
            if sign_of(number) != 0:
                under = inverse(number)
                self.check(under, (1 / bounds[1], 1 / bounds[0]), weight_of(number))
                self.same(inverse(under), number)
                self.same(inverse(turned), opposite(under))

    def test_ratios(self):
        for given in [(1, 1), (-1, 1), (3, 2), (-2, 3), (GREAT, GREAT - 2), (-1, GREAT), (GREAT, 1)]:
            number = of_ratio(given)
            self.assertEqual(as_ratio(opposite(number)), (-given[0], given[1]))
            self.assertEqual(as_ratio(inverse(number)), (1 / Fraction(*given)).as_integer_ratio())
            self.assertEqual((weight_of(opposite(number)), weight_of(inverse(number))), (1, 1))
        self.assertEqual(as_ratio(opposite(NOUGHT)), (0, 1))

    def test_near_to_0(self):
        for number in roots([1, -GREAT, 0, 0, 1]) + roots([-1, 0, GREAT]) + roots([0, -1, 0, GREAT]):
            if sign_of(number) != 0:
                self.same(inverse(inverse(number)), number)
                self.assertEqual(sign_of(inverse(number)), sign_of(number))
                self.assertEqual(weight_of(inverse(number)), weight_of(number))
        self.same(inverse(nth([-1, 0, GREAT], 0)), nth([-GREAT, 0, 1], 0))

    def test_no_inverse_of_0(self):
        heavy = nth([-2] + [0] * 11 + [1], 0)
        several = (NOUGHT, nth([0, -2, 0, 1], 1), less(nth([-2, 0, 1], 0), nth([-2, 0, 1], 0)))
        for nought in several:
            self.refused(NoRatio, inverse, nought)
            for number in (NOUGHT, of_ratio((3, 2)), nth([-2, 0, 1], 0), heavy) + several:
                self.refused(NoRatio, over, number, nought)


class Weights(Checking):
    def test_12_and_more(self):
        found = {power: nth([-2] + [0] * (power - 1) + [1], 0) for power in range(2, 13)}
        for one in found:
            for other in found:
                for function in BOTH:
                    if one * other > 12:
                        self.refused(TooGreat, function, found[one], found[other])
                    else:
                        told = function(found[one], found[other])
                        self.assertEqual(weight_of(told), one * other if as_ratio(told) is None else 1)

    def test_what_a_weight_is_and_not_what_it_could_be(self):
        # The root of 2 out of a polynomial of four unlike roots.
        heavy = nth(product([-2, 0, 1], [5, 0, 1]), 1)
        light = nth([-2, 0, 1], 1)
        self.same(heavy, light)
        self.assertEqual(as_ratio(multiplied_by(heavy, light)), (2, 1))
        self.assertEqual(weight_of(added_to(heavy, light)), 8)
        self.refused(TooGreat, multiplied_by, heavy, heavy)
        self.refused(TooGreat, added_to, added_to(heavy, light), light)
        self.assertEqual(weight_of(added_to(multiplied_by(heavy, light), heavy)), 4)

    def test_with_0_and_other_ratios(self):
        heavy = nth([-2] + [0] * 11 + [1], 0)
        for function in (multiplied_by, over):
            self.assertEqual(as_ratio(function(NOUGHT, heavy)), (0, 1))
            self.assertEqual(weight_of(function(NOUGHT, heavy)), 1)
        self.assertEqual(as_ratio(multiplied_by(heavy, NOUGHT)), (0, 1))
        # No number has a weight above 12, so no sum with 0 is refused.
        for function in (added_to, less):
            self.same(function(heavy, NOUGHT), heavy)
            self.assertEqual(weight_of(function(heavy, NOUGHT)), 12)
            self.assertEqual(weight_of(function(NOUGHT, heavy)), 12)
        for function in BOTH:
            self.assertEqual(weight_of(function(heavy, of_ratio((2, 3)))), 12)
            self.assertEqual(weight_of(function(of_ratio((2, 3)), heavy)), 12)

    def test_of_one(self):
        for power in range(2, 13):
            number = nth([-2] + [0] * (power - 1) + [1], 0)
            self.assertEqual((weight_of(opposite(number)), weight_of(inverse(number))), (power, power))
        # 0 is a root of the polynomial, and none of the inverses'.
        number = nth([0, -2, 0, 1], 0)
        self.assertEqual((weight_of(opposite(number)), weight_of(inverse(number))), (3, 3))


class Powers(Checking):
    def test_of_ratios(self):
        for given in [(0, 1), (1, 1), (-1, 1), (3, 2), (-2, 3), (GREAT, 2), (-1, GREAT)]:
            for many in list(range(14)) + [40]:
                told = power_of(of_ratio(given), many)
                self.assertEqual(as_ratio(told), (Fraction(*given) ** many).as_integer_ratio())
                self.assertEqual(weight_of(told), 1)

    def test_very_great_counts(self):
        for top, sought in ((0, 0), (1, 1), (-1, -1)):
            self.assertEqual(as_ratio(power_of(of_ratio((top, 1)), GREAT)), (sought, 1))
        self.assertEqual(as_ratio(power_of(of_ratio((-1, 1)), GREAT - 1)), (1, 1))

    def test_by_0_and_1(self):
        for number, bounds in pool():
            self.assertEqual(as_ratio(power_of(number, 0)), (1, 1))
            self.assertEqual(weight_of(power_of(number, 0)), 1)
            self.same(power_of(number, 1), number)
            self.assertEqual(weight_of(power_of(number, 1)), weight_of(number))

    def test_one_after_the_other(self):
        for number, bounds in pool():
            product_so_far = of_ratio((1, 1))
            for many in range(1, 9):
                if weight_of(product_so_far) * weight_of(number) > 12:
                    self.refused(TooGreat, power_of, number, many)
                    self.refused(TooGreat, power_of, number, many + 1)
                    self.refused(TooGreat, power_of, number, 10 ** 9)
                    break
                product_so_far = multiplied_by(product_so_far, number)
                told = power_of(number, many)
                self.same(told, product_so_far)
                self.assertEqual(weight_of(told), weight_of(product_so_far))

    def test_squares_that_are_ratios(self):
        for number, square in ((nth([-2, 0, 1], 0), 2), (nth(product([-3, 0, 1], [-1, 1]), 0), 3)):
            for many in range(0, 20):
                told = power_of(number, many)
                if many % 2 == 0:
                    self.assertEqual(as_ratio(told), (square ** (many // 2), 1))
                    self.assertEqual(weight_of(told), 1)
                else:
                    self.same(told, nth([-square ** many, 0, 1], 0))
                    self.assertEqual(weight_of(told), weight_of(number))
        self.assertEqual(as_ratio(power_of(nth([-2, 0, 1], 0), 4000)), (2 ** 2000, 1))

    def test_too_great(self):
        golden = nth([-1, -1, 1], 1)
        self.assertEqual([weight_of(power_of(golden, many)) for many in range(4)], [1, 2, 4, 8])
        self.same(power_of(golden, 3), added_to(golden, added_to(golden, of_ratio((1, 1)))))
        for many in (4, 5, 12, GREAT):
            self.refused(TooGreat, power_of, golden, many)
        # Its third power is a ratio, but the third product is refused.
        cube = nth([-2, 0, 0, 1], 0)
        self.assertEqual(weight_of(power_of(cube, 2)), 9)
        self.refused(TooGreat, power_of, cube, 3)
        # Its square is a ratio, but the second product is refused.
        self.refused(TooGreat, power_of, nth(product([-2, 0, 1], [1, 0, 1]), 0), 2)
        self.refused(TooGreat, power_of, nth([-2, 0, 0, 0, 1], 0), 2)


class Roots(Checking):
    def test_of_powers(self):
        for given in [(0, 1), (1, 1), (3, 2), (2, 3), (10 ** 12, 7), (1, 2 ** 33 - 1)]:
            for many in range(1, 13):
                number = of_ratio((given[0] ** many, given[1] ** many))
                told = root_of(number, many)
                self.assertEqual(as_ratio(told), given)
                self.assertEqual(weight_of(told), 1)

    def test_of_ratios_that_are_none(self):
        for top, under in ((2, 1), (1, 2), (7, 5), (GREAT, 1), (1, GREAT), (GREAT, GREAT - 2)):
            for many in range(2, 13):
                told = root_of(of_ratio((top, under)), many)
                self.assertIsNone(as_ratio(told))
                self.assertEqual(weight_of(told), many)
                self.same(told, roots([-top] + [0] * (many - 1) + [under])[-1])
                self.assertEqual(sign_of(told), 1)

    def test_by_a_hair_beside_powers(self):
        for many in (2, 3, 12):
            for apart in (-1, 1):
                told = root_of(of_ratio((3 ** (20 * many) + apart, 1)), many)
                self.assertIsNone(as_ratio(told))
                self.assertEqual(compared(told, of_ratio((3 ** 20, 1))), apart)

    def test_partly_powers(self):
        self.same(root_of(of_ratio((8, 1)), 6), root_of(of_ratio((2, 1)), 2))
        self.assertEqual(weight_of(root_of(of_ratio((8, 1)), 6)), 6)
        self.same(power_of(root_of(of_ratio((9, 4)), 4), 1), nth([-3, 0, 2], 1))

    def test_of_others(self):
        for number, bounds in pool():
            for many in range(1, 14):
                if sign_of(number) < 0:
                    self.refused(NoNumber, root_of, number, many)
                elif weight_of(number) * many > 12:
                    self.refused(TooGreat, root_of, number, many)
                elif as_ratio(number) is None:
                    told = root_of(number, many)
                    self.assertIsNone(as_ratio(told))
                    self.assertEqual(weight_of(told), weight_of(number) * many)
                    self.assertEqual(sign_of(told), 1)
                    self.check_kept(told)
                    self.check_power(told, many, bounds)

    def check_power(self, told, many, bounds):
        """By how the power lies to each of some ratios beside it."""
        for part in (bounds[0], bounds[1]):
            place = 1
            while Fraction(place, 2 ** 100) ** many <= part:
                place *= 2
            for step in (2 ** k for k in reversed(range(place.bit_length()))):
                if Fraction(place - step, 2 ** 100) ** many > part:
                    place -= step
            self.assertEqual(compared(told, of_ratio(Fraction(place, 2 ** 100).as_integer_ratio())), -1)
            self.assertEqual(compared(told, of_ratio(Fraction(place - 1, 2 ** 100).as_integer_ratio())), 1)

    def test_of_numbers_near_to_0(self):
        for poly, place in (([1, -GREAT, 1], 0), ([1, -GREAT, 0, 1], 1), ([1, -5, 1], 0), ([1, -10 ** 6, 3, 1], 1)):
            for many in range(1, 12 // (len(poly) - 1) + 1):
                number = nth(poly, place)
                spaced = [0] * (many * (len(poly) - 1) + 1)
                spaced[::many] = poly
                sought = [root for root in roots(spaced) if sign_of(root) > 0][0]
                self.assertEqual(sign_of(number), 1)
                self.same(root_of(number, many), sought)

    def test_by_1(self):
        for number, bounds in pool():
            if sign_of(number) >= 0:
                told = root_of(number, 1)
                self.same(told, number)
                self.assertEqual(weight_of(told), weight_of(number))
                self.assertEqual(as_ratio(told), as_ratio(number))

    def test_squares_of_them(self):
        golden = nth([-1, -1, 1], 1)
        self.same(root_of(power_of(golden, 2), 2), golden)
        self.assertEqual(weight_of(root_of(power_of(golden, 2), 2)), 8)
        cube = nth([-2, 0, 0, 1], 0)
        self.same(root_of(cube, 4), root_of(of_ratio((2, 1)), 12))
        self.assertEqual(weight_of(root_of(cube, 4)), 12)
        low, high = roots([1, -3, 1])
        self.same(multiplied_by(root_of(low, 1), high), of_ratio((1, 1)))
        self.same(root_of(high, 2), golden)
        self.same(root_of(low, 2), less(golden, of_ratio((1, 1))))

    def test_of_0(self):
        for nought in (NOUGHT, nth([0, -2, 0, 1], 1)):
            for many in range(1, 13):
                self.assertEqual(as_ratio(root_of(nought, many)), (0, 1))
                self.assertEqual(weight_of(root_of(nought, many)), 1)
            for many in (13, 14, GREAT):
                self.refused(TooGreat, root_of, nought, many)

    def test_refused(self):
        heavy = roots([-2] + [0] * 11 + [1])
        for many in (1, 2, 3, 12, 13, 100, GREAT):
            for number in (of_ratio((-1, 1)), of_ratio((-1, GREAT)), nth([-2, 0, 1], 0), heavy[0]):
                self.refused(NoNumber, root_of, number, many)
        for many in (2, 3, 12, 13, GREAT):
            self.refused(TooGreat, root_of, heavy[1], many)
        for many in (13, 14, GREAT):
            for given in ((1, 1), (4, 9), (2 ** 13, 1)):
                self.refused(TooGreat, root_of, of_ratio(given), many)

    def test_other_roots_hardly_apart(self):
        great = 2 ** 199
        told = roots([-1, 2 * great, -great * great, 0, 0, 0, 1])
        self.assertEqual([sign_of(number) for number in told], [-1, 1, 1, 1])
        rooted = [root_of(number, 2) for number in told[1:]]
        self.assertEqual([compared(*pair) for pair in zip(rooted, rooted[1:])], [-1, -1])
        middle = root_of(of_ratio((1, great)), 2)
        self.assertEqual([compared(number, middle) for number in rooted], [-1, 1, 1])


if __name__ == "__main__":
    unittest.main()

"""Polynomials for the tests, and a slow and plain reckoning with ratios to hold the program against."""

import math
import random
from fractions import Fraction

GREAT = 2 ** 400 - 1


def drawn(seed, degree, size):
    source = random.Random(seed)
    row = [source.randint(-size, size) for _ in range(degree)]
    return row + [source.choice((-1, 1)) * source.randint(1, size)]


def product(*polys):
    total = [1]
    for poly in polys:
        longer = [0] * max(len(total) + len(poly) - 1, 0)
        for i, number in enumerate(total):
            for j, factor in enumerate(poly):
                longer[i + j] += number * factor
        total = longer
    while total and total[-1] == 0:
        total.pop()
    return total


def plain_primitive(row):
    if not row:
        return []
    under = math.lcm(*[Fraction(number).denominator for number in row])
    whole = [int(number * under) for number in row]
    shared = math.gcd(*whole)
    return [number // shared * (1 if whole[-1] > 0 else -1) for number in whole]


def plain_division(one, other):
    rest = [Fraction(number) for number in one]
    quotient = [Fraction(0)] * max(len(one) - len(other) + 1, 0)
    while len(rest) >= len(other):
        shift = len(rest) - len(other)
        factor = rest[-1] / other[-1]
        quotient[shift] = factor
        for k, number in enumerate(other):
            rest[shift + k] -= factor * number
        while rest and rest[-1] == 0:
            rest.pop()
    return quotient, rest


def plain_divisor(one, other):
    while other:
        one, other = other, plain_division(one, other)[1]
    return plain_primitive(one)


def plain_value(poly, given):
    top, under = given
    most = max(len(poly) - 1, 0)
    return Fraction(sum(number * top ** k * under ** (most - k) for k, number in enumerate(poly)), under ** most)


def plain_counts(poly):
    """How many unlike roots of the polynomial are above one ratio and not above another, by division of ratios."""
    free = plain_primitive(plain_division(poly, plain_divisor(poly, plain_derivative(poly)))[0])
    chain = [free, plain_derivative(free)]
    while chain[-1]:
        rest = plain_division(chain[-2], chain[-1])[1]
        turn = -1 if rest and rest[-1] > 0 else 1
        chain.append([turn * number for number in plain_primitive(rest)])

    def changes(given):
        signs = [value for value in (plain_value(row, given) for row in chain) if value]
        return sum((one > 0) != (other > 0) for one, other in zip(signs, signs[1:]))

    return lambda low, high: changes(low) - changes(high)


def plain_derivative(poly):
    return [power * number for power, number in enumerate(poly)][1:]


class Known:
    """The number offset + turn * radicand ** (1 / power), turn being 1 or -1, the radicand not below 0."""

    def __init__(self, offset, turn=1, power=1, radicand=0):
        self.offset = Fraction(offset)
        self.turn = turn
        self.power = power
        self.radicand = Fraction(radicand)

    def above(self, given):
        """1, 0 or -1 as the number is above, at, below a ratio or a Fraction."""
        apart = (Fraction(*given) if isinstance(given, tuple) else given) - self.offset
        apart *= self.turn
        if apart < 0:
            return self.turn
        ahead = self.radicand - apart ** self.power
        return self.turn * ((ahead > 0) - (ahead < 0))

    def rounded(self, under=2 ** 1500):
        """The number to the next lower multiple of one over the under, to sort by and to be held against."""
        scaled = self.radicand * under ** self.power
        size = Fraction(plain_root(scaled.numerator // scaled.denominator, self.power), under)
        place = (self.offset + self.turn * size) * under // 1 - 2
        while self.above(Fraction(place + 1, under)) >= 0:
            place += 1
        return Fraction(place, under)


    def bounds(self):
        """Two Fractions with the number between them, or at the first one."""
        low = self.rounded()
        return low, low + Fraction(1, 2 ** 1500)


def plain_root(number, power):
    """The greatest whole number whose power isn't above the number."""
    if number == 0:
        return 0
    guess = 1 << (number.bit_length() // power + 1)
    while True:
        following = ((power - 1) * guess + number // guess ** (power - 1)) // power
        if following >= guess:
            return guess
        guess = following


def ratio_factor(top, under=1):
    return [-top, under], [Known(Fraction(top, under))]


def power_factor(power, radicand, offset=0):
    """(x - offset) ** power - radicand, primitive, and its real roots; the radicand not 0."""
    shift = [-Fraction(offset), Fraction(1)]
    poly = product(*[shift] * power)
    poly[0] -= radicand
    if power % 2 == 1:
        found = [Known(offset, 1 if radicand > 0 else -1, power, abs(radicand))]
    elif radicand > 0:
        found = [Known(offset, -1, power, radicand), Known(offset, 1, power, radicand)]
    else:
        found = []
    return plain_primitive(poly), found


def joined(*factors, scale=1):
    """The product of factors as the two functions above tell them, times a scale, and its real roots, rising."""
    found = {}
    for poly, numbers in factors:
        for number in numbers:
            found.setdefault(number.rounded(), number)
    return product([scale], *[poly for poly, _ in factors]), [found[key] for key in sorted(found)]


HAIR = 2 ** 180
KNOWN = [
    # No real root, and whole numbers.
    joined(power_factor(2, -1)),
    joined(power_factor(4, -3, 7), power_factor(2, -5)),
    joined(scale=1),
    joined(scale=-6),
    joined(scale=GREAT),
    # Roots that are ratios, whole ones and 0 among them.
    joined(ratio_factor(0)),
    joined(ratio_factor(1), ratio_factor(-1)),
    joined(ratio_factor(3, 2)),
    joined(*[ratio_factor(top) for top in range(1, 13)]),
    joined(*[ratio_factor(top, 2 ** 5) for top in range(-6, 6)]),
    joined(*[ratio_factor(1, under) for under in (2, 3, 5, 7, 9, 11)]),
    joined(ratio_factor(1, 3 * 5 * 7 * 9 * 11), ratio_factor(1, 3), ratio_factor(4, 3), ratio_factor(-2, 3)),
    # Roots that are none.
    joined(power_factor(2, 2)),
    joined(power_factor(3, 2), power_factor(3, -5, 1)),
    joined(power_factor(2, 2), power_factor(2, 3), power_factor(4, 5), power_factor(3, Fraction(1, 7), -1)),
    joined(power_factor(12, 2)),
    joined(power_factor(2, 3, Fraction(1, 2)), power_factor(2, 3, Fraction(-1, 2)), power_factor(2, -1)),
    # Both, and roots that aren't real beside them.
    joined(power_factor(2, 2), ratio_factor(1), ratio_factor(3, 2), power_factor(2, -1)),
    joined(power_factor(2, 4), power_factor(3, 8), power_factor(2, Fraction(1, 4))),
    # Roots twice and more often.
    joined(*[ratio_factor(0)] * 12),
    joined(*[ratio_factor(2, 3)] * 5, *[ratio_factor(-1)] * 2, ratio_factor(1)),
    joined(*[power_factor(2, 2)] * 3, *[ratio_factor(7, 5)] * 2, *[power_factor(2, -1)] * 2),
    joined(*[power_factor(3, 2)] * 4),
    # A last number below 0, and a common divisor.
    joined(power_factor(2, 2), ratio_factor(1), scale=-1),
    joined(power_factor(2, 2), ratio_factor(-4, 3), scale=-12),
    joined(power_factor(2, 5), power_factor(2, 5), scale=GREAT),
    # Roots near to one another.
    joined(ratio_factor(1), ratio_factor(HAIR + 1, HAIR)),
    joined(ratio_factor(1), ratio_factor(HAIR + 1, HAIR), ratio_factor(HAIR - 1, HAIR), power_factor(2, 1)),
    joined(power_factor(2, 2), power_factor(2, 2 + Fraction(1, HAIR))),
    joined(power_factor(2, 2), ratio_factor(math.isqrt(2 * HAIR ** 2), HAIR)),
    joined(power_factor(6, Fraction(1, HAIR)), power_factor(6, Fraction(1, HAIR + 1))),
    joined(*[power_factor(2, 2 ** 66 + more) for more in range(6)]),
    # Great numbers.
    joined(ratio_factor(GREAT)),
    joined(ratio_factor(-GREAT, GREAT - 1)),
    joined(ratio_factor(1, GREAT)),
    joined(power_factor(2, GREAT)),
    joined(power_factor(12, GREAT)),
    joined(power_factor(11, Fraction(-1, GREAT))),
    joined(ratio_factor(GREAT), ratio_factor(1, GREAT), power_factor(2, 2)),
    joined(*[ratio_factor(2 ** 33 - more, 2 ** 33 + more) for more in range(12)]),
]

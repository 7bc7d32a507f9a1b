"""Polynomials for the tests, and a slow and plain reckoning with ratios to hold the program against."""

import math
import random
from fractions import Fraction

GREAT = 2 ** 400 - 1


def drawn(seed, degree, size):
    source = random.Random(seed)
    row = [source.randint(-size, size) for _ in range(degree)]
    return row + [source.choice((-1, 1)) * source.randint(1, size)]


def product(*polys):
    total = [1]
    for poly in polys:
        longer = [0] * max(len(total) + len(poly) - 1, 0)
        for i, number in enumerate(total):
            for j, factor in enumerate(poly):
                longer[i + j] += number * factor
        total = longer
    while total and total[-1] == 0:
        total.pop()
    return total


def plain_primitive(row):
    if not row:
        return []
    under = math.lcm(*[Fraction(number).denominator for number in row])
    whole = [int(number * under) for number in row]
    shared = math.gcd(*whole)
    return [number // shared * (1 if whole[-1] > 0 else -1) for number in whole]


def plain_division(one, other):
    rest = [Fraction(number) for number in one]
    quotient = [Fraction(0)] * max(len(one) - len(other) + 1, 0)
    while len(rest) >= len(other):
        shift = len(rest) - len(other)
        factor = rest[-1] / other[-1]
        quotient[shift] = factor
        for k, number in enumerate(other):
            rest[shift + k] -= factor * number
        while rest and rest[-1] == 0:
            rest.pop()
    return quotient, rest


def plain_divisor(one, other):
    while other:
        one, other = other, plain_division(one, other)[1]
    return plain_primitive(one)


def plain_value(poly, given):
    return sum((number * Fraction(*given) ** power for power, number in enumerate(poly)), Fraction(0))

"""Reckoning with numbers: sums, products, powers and roots of numbers are numbers again."""

from surefoot.errors import NoNumber, NoRatio, TooGreat
from surefoot.isolating import is_alone, narrowed, stretch_of
from surefoot.numbers import Root, as_ratio, number_in, of_ratio, sign_of, weight_of
from surefoot.polys import square_free
from surefoot.ratios import plus, power, ratio, sign, times
from surefoot.results import inverses_of, opposites_of, products_of, roots_of, sums_of, whole_root

GREATEST_WEIGHT = 12


def near(number, width):
    return narrowed(number.poly, number.pair, width)


# A pair with one root alone. What is handed in tells pairs with that root between their ends, which draw together as
# the width that it is asked with grows less.
def located(free, pair_by):
    width = (1, 16)
    pair = pair_by(width)
    while not is_alone(free, pair):
        width = times(width, width)
        pair = pair_by(width)
    return pair


# Two ratios are never refused, nor is 0 with another number: a ratio's weight is 1, and no number's is above 12.
def weight_of_two(one, other):
    weight = weight_of(one) * weight_of(other)
    if weight > GREATEST_WEIGHT:
        raise TooGreat("the weights make more than 12")
    return weight


# The functions tell what polynomial has the results of two polynomials' roots as its roots, and between which ratios
# the results lie of what lies between others.
def result_of(one, other, poly_of, pair_of):
    weight = weight_of_two(one, other)
    poly = poly_of(one.poly, other.poly)
    # With a ratio the roots keep apart and the pair about one of them still has it alone; and what comes of a ratio and
    # a number that is none is none either.
    if as_ratio(one) is not None or as_ratio(other) is not None:
        return Root(poly, pair_of(one.pair, other.pair), weight)
    free = square_free(poly)
    pair = located(free, lambda width: pair_of(near(one, width), near(other, width)))
    return number_in(free, pair, weight)


def pair_of_sums(one, other):
    return (plus(one[0], other[0]), plus(one[1], other[1]))


# Which of the ends make the least and the greatest product hangs on the signs.
def pair_of_products(one, other):
    first = stretch_of(one)
    second = stretch_of(other)
    tops = [first[0] * second[0], first[0] * second[1], first[1] * second[0], first[1] * second[1]]
    under = first[2] * second[2]
    return (ratio(min(tops), under), ratio(max(tops), under))


def added_to(one, other):
    return result_of(one, other, sums_of, pair_of_sums)


def opposite(number):
    low = number.pair[0]
    high = number.pair[1]
    return Root(opposites_of(number.poly), ((-high[0], high[1]), (-low[0], low[1])), weight_of(number))


def less(one, other):
    return added_to(one, opposite(other))


def multiplied_by(one, other):
    if sign_of(one) == 0 or sign_of(other) == 0:
        return of_ratio((0, 1))
    return result_of(one, other, products_of, pair_of_products)


# Of a number that isn't 0.
def pair_beside_nought(number):
    pair = number.pair
    width = (1, 16)
    while sign(pair[0][0]) * sign(pair[1][0]) != 1:
        pair = near(number, width)
        width = times(width, width)
    return pair


def inverse(number):
    if sign_of(number) == 0:
        raise NoRatio("0 has no inverse")
    pair = pair_beside_nought(number)
    low = pair[0]
    high = pair[1]
    inverses = (ratio(high[1], high[0]), ratio(low[1], low[0]))
    return Root(inverses_of(number.poly), inverses, weight_of(number))


def over(one, other):
    return multiplied_by(one, inverse(other))


# Behind a product that is a ratio the same products come again, each times that ratio; so they needn't all be made.
def power_of(number, many):
    product = of_ratio((1, 1))
    for turn in range(1, many + 1):
        product = multiplied_by(product, number)
        given = as_ratio(product)
        if given is not None:
            again = many // turn
            factor = of_ratio((power(given[0], again), power(given[1], again)))
            return multiplied_by(factor, power_of(number, many - again * turn))
    return product


# A pair with the root between its ends, also where the pair is the number itself and the number a ratio's power.
def pair_of_roots(pair, many, under):
    scale = power(under, many)
    low = whole_root(max(pair[0][0], 0) * scale // pair[0][1], many) - 1
    high = whole_root(pair[1][0] * scale // pair[1][1], many) + 1
    return (ratio(low, under), ratio(high, under))


def root_of(number, many):
    side = sign_of(number)
    if side < 0:
        raise NoNumber("a number below 0 has no such root")
    weight = weight_of(number) * many
    if weight > GREATEST_WEIGHT:
        raise TooGreat("the weight times the count is above 12")
    if side == 0:
        return of_ratio((0, 1))
    free = roots_of(number.poly, many)
    pair = located(free, lambda width: pair_of_roots(near(number, width), many, width[1]))
    return number_in(free, pair, weight)

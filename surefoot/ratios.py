"""Ratios: tuples (top, under) in lowest terms, under being above 0."""

from surefoot.errors import NoRatio


def common_divisor(one, other):
    greater = abs(one)
    lesser = abs(other)
    while lesser:
        rest = greater % lesser
        greater = lesser
        lesser = rest
    return greater


def sign(number):
    if number < 0:
        return -1
    return 1 if number > 0 else 0


# By squares, as the count may be great where the number is 0, 1 or -1.
def power(number, many):
    product = 1
    square = number
    left = many
    while left > 0:
        if left % 2 == 1:
            product = product * square
        left = left // 2
        # The last square of all would be the longest, and in vain.
        if left > 0:
            square = square * square
    return product


def ratio(top, under):
    if under == 0:
        raise NoRatio("a ratio's under can't be 0")
    shared = common_divisor(top, under)
    # A shared divisor below 0 turns the under's sign, and the top's with it.
    if under < 0:
        shared = -shared
    return (top // shared, under // shared)


def plus(one, other):
    return ratio(one[0] * other[1] + other[0] * one[1], one[1] * other[1])


def minus(one, other):
    return ratio(one[0] * other[1] - other[0] * one[1], one[1] * other[1])


def times(one, other):
    return ratio(one[0] * other[0], one[1] * other[1])


def middle(one, other):
    return ratio(one[0] * other[1] + other[0] * one[1], 2 * one[1] * other[1])


def order_of(one, other):
    return sign(one[0] * other[1] - other[0] * one[1])

"""Polynomials whose roots are the sums, products and so on of the roots of others."""

from surefoot.polys import composed, degree, multiplied, primitive, trimmed
from surefoot.ratios import common_divisor, power


# The numbers, that of the greatest power first, of the polynomial with a 1 there whose roots are this one's, each times
# the scale. If the last number divides the scale they are whole, and the sums of the roots' powers with them.
def falling(poly, scale):
    row = []
    factor = 1
    for number in reversed(poly):
        row.append(number * factor // poly[-1])
        factor = factor * scale
    return row


# The sums of the roots' powers by 0, by 1 and so on, out of such a row; by Newton's identities.
def power_sums(row, many):
    sums = [len(row) - 1]
    for count in range(1, many + 1):
        total = count * row[count] if count < len(row) else 0
        for place in range(1, min(count, len(row))):
            total = total + row[place] * sums[count - place]
        sums.append(-total)
    return sums


# The same identities the other way about.
def falling_of_sums(sums):
    row = [1]
    for count in range(1, len(sums)):
        total = sums[count]
        for place in range(1, count):
            total = total + row[place] * sums[count - place]
        row.append(-total // count)
    return row


# The polynomial whose roots, times the scale, have powers with these sums.
def with_power_sums(sums, scale):
    poly = []
    factor = 1
    for number in reversed(falling_of_sums(sums)):
        poly.append(number * factor)
        factor = factor * scale
    return primitive(poly)


# A power of a sum of two is the sum of the products of their powers, each as many times as these can be chosen.
def sums_by_powers(one, other):
    many = degree(one) * degree(other)
    scale = one[-1] * other[-1] // common_divisor(one[-1], other[-1])
    first = power_sums(falling(one, scale), many)
    second = power_sums(falling(other, scale), many)
    sums = []
    choices = [1]
    for count in range(many + 1):
        sums.append(sum([times * first[place] * second[count - place] for place, times in enumerate(choices)]))
        choices = multiplied(choices, [1, 1])
    return with_power_sums(sums, scale)


def products_by_powers(one, other):
    many = degree(one) * degree(other)
    first = power_sums(falling(one, one[-1]), many)
    second = power_sums(falling(other, other[-1]), many)
    return with_power_sums([left * right for left, right in zip(first, second)], one[-1] * other[-1])


# Where one of them has a single root, a ratio, there is a way with much shorter numbers: each sum less that ratio is a
# root of the other.
def sums_of(one, other):
    if degree(one) == 1:
        return primitive(composed(other, one, [one[1]]))
    return sums_of(other, one) if degree(other) == 1 else sums_by_powers(one, other)


# Likewise: each product over that ratio, which isn't 0, is a root of the other.
def products_of(one, other):
    if degree(one) == 1:
        return primitive(composed(other, [0, one[1]], [-one[0]]))
    return products_of(other, one) if degree(other) == 1 else products_by_powers(one, other)


def opposites_of(poly):
    return primitive(composed(poly, [0, -1], [1]))


# Of all roots but 0.
def inverses_of(poly):
    return primitive(composed(poly, [1], [0, 1]))


# Of a polynomial with no root twice: another such one, with the roots, by the count, of all its roots but 0. That one
# would be there as many times as the count.
def roots_of(free, many):
    others = free[1:] if free[0] == 0 else free
    row = []
    for number in others:
        row.extend([number] + [0] * (many - 1))
    return trimmed(row)


# The greatest whole number whose power by the count isn't above a number that isn't below 0. By Newton's way: from a
# guess that is too great the guesses fall until they are there.
def whole_root(number, many):
    if number == 0:
        return 0
    guess = power(2, number.bit_length() // many + 1)
    while True:
        following = ((many - 1) * guess + number // power(guess, many - 1)) // many
        if following >= guess:
            return guess
        guess = following

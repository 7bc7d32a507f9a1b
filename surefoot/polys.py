"""Polynomials: lists of whole numbers, that of the power 0 first, the last one not 0; nought is []."""

from surefoot.ratios import common_divisor, sign


def trimmed(row):
    length = len(row)
    while length > 0 and row[length - 1] == 0:
        length = length - 1
    return row[:length]


def degree(poly):
    return len(poly) - 1


def added(one, other):
    total = one + [0] * (len(other) - len(one))
    for power, number in enumerate(other):
        total[power] = total[power] + number
    return trimmed(total)


def multiplied(one, other):
    if not one or not other:
        return []
    product = [0] * (len(one) + len(other) - 1)
    for power, number in enumerate(one):
        for further, factor in enumerate(other):
            product[power + further] = product[power + further] + number * factor
    return product


def scaled(poly, factor):
    if factor == 0:
        return []
    return [number * factor for number in poly]


def derivative(poly):
    return [power * number for power, number in enumerate(poly)][1:]


def content(poly):
    shared = 0
    for number in poly:
        shared = common_divisor(shared, number)
    return -shared if poly and poly[-1] < 0 else shared


def primitive(poly):
    shared = content(poly)
    return [number // shared for number in poly]


def value_at(poly, point):
    value = 0
    for number in reversed(poly):
        value = value * point + number
    return value


# A polynomial that has the value at the point, its numbers at most half the point in size.
def spread(value, point):
    poly = []
    rest = value
    while rest:
        number = rest % point
        # Without numbers below 0 only some polynomials could be found again from their values.
        if 2 * number > point:
            number = number - point
        poly.append(number)
        rest = (rest - number) // point
    return poly


# The quotient in whole numbers, or None where there is none.
def divided(poly, divisor):
    rest = list(poly)
    factors = []
    while len(rest) >= len(divisor):
        factor = rest[-1] // divisor[-1]
        shift = len(rest) - len(divisor)
        for power, number in enumerate(divisor):
            rest[shift + power] = rest[shift + power] - factor * number
        if rest.pop() != 0:
            return None
        factors.append(factor)
    if any(rest):
        return None
    return list(reversed(factors))


def largest(poly):
    return max([abs(number) for number in poly])


# Dividing with remainders would make the numbers grow from step to step, so whole numbers are asked instead: the
# sought polynomial's value at a point divides the common divisor of the two values there, and is spread out again.
# - What is found and divides both is the greatest. Were it short of a factor, that factor's value would divide the
#   content of what was spread, which is at most half the point. But the point is at least twice as far out as 1 and
#   the lesser one's largest number, so beyond half the point from each of its roots: the value would be above that.
# - It is found at last. The two without their greatest divisor have values whose common divisor stays below a bound
#   at all points; far enough out the spread is the sought one times that, and made primitive the sought one.
# The 2 ** 32 lets the first point do nearly always.
def divisor_of(one, other):
    first = primitive(one)
    second = primitive(other)
    if not first:
        return second
    if not second:
        return first
    point = 2 * (min(largest(first), largest(second)) + 1) * 2 ** 32
    while True:
        shared = common_divisor(value_at(first, point), value_at(second, point))
        found = primitive(spread(shared, point))
        if divided(first, found) is not None and divided(second, found) is not None:
            return found
        point = point * point


# Between primitive polynomials a quotient has whole numbers and is primitive itself.
def quotient(one, other):
    return divided(primitive(one), primitive(other))


def square_free(poly):
    return quotient(poly, divisor_of(poly, derivative(poly)))


# What the polynomial is at top / under, these being polynomials, times the under's power by the degree.
def composed(poly, top, under):
    made = []
    scale = [1]
    for number in reversed(poly):
        made = added(multiplied(made, top), scaled(scale, number))
        scale = multiplied(scale, under)
    return made


# The value at top / under, times the under's power by the degree: whole, and of the value's sign, as under is above 0.
def height_at(poly, top, under):
    height = 0
    scale = 1
    for number in reversed(poly):
        height = height * top + number * scale
        scale = scale * under
    return height


def sign_at(poly, given):
    return sign(height_at(poly, given[0], given[1]))

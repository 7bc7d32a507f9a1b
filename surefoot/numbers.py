"""Numbers: the real roots of polynomials, ratios among them."""

from surefoot.errors import NoNumber
from surefoot.isolating import isolated, narrowed
from surefoot.polys import degree, divisor_of, sign_at, square_free
from surefoot.ratios import order_of, ratio, times


# A primitive polynomial with no root twice, and a pair of ratios, both the number if that is a ratio; else with the
# number between them, no other root of the polynomial, and neither of them a root.
class Root:
    def __init__(self, poly, pair, weight):
        self.poly = poly
        self.pair = pair
        self.weight = weight


def of_ratio(given):
    return Root([-given[0], given[1]], (given, given), 1)


# Times the polynomial's last number each root that is a ratio is a whole number, and a pair that is no wider than one
# over that number has room for one such root alone. The weight is what the number has unless it is a ratio.
def number_in(free, pair, weight):
    last = free[-1]
    narrow = narrowed(free, pair, (1, last))
    low = narrow[0]
    high = narrow[1]
    if low == high:
        return of_ratio(low)
    given = ratio(low[0] * last // low[1] + 1, last)
    if order_of(given, high) < 0 and sign_at(free, given) == 0:
        return of_ratio(given)
    return Root(free, narrow, weight)


def roots(poly):
    pairs = isolated(poly)
    free = square_free(poly)
    return [number_in(free, pair, degree(free)) for pair in pairs]


def nth(poly, k):
    pairs = isolated(poly)
    if k < 0 or k >= len(pairs):
        raise NoNumber("there is no root at that place")
    free = square_free(poly)
    return number_in(free, pairs[k], degree(free))


def as_ratio(number):
    return number.pair[0] if number.pair[0] == number.pair[1] else None


def weight_of(number):
    return number.weight


# -1, 0 or 1 as the number is below, at, above the ratio.
def against(number, given):
    low = number.pair[0]
    side = order_of(low, given)
    if side == order_of(number.pair[1], given):
        return side
    # The sign turns at the number and nowhere else in the pair.
    return sign_at(number.poly, low) * sign_at(number.poly, given)


# Of two that are no ratios. Where both pairs reach each polynomial has at most one root, its number; a root that they
# share is there just if the greatest divisor's sign turns.
def are_same(one, other):
    low = one.pair[0] if order_of(one.pair[0], other.pair[0]) > 0 else other.pair[0]
    high = one.pair[1] if order_of(one.pair[1], other.pair[1]) < 0 else other.pair[1]
    if order_of(low, high) >= 0:
        return False
    shared = divisor_of(one.poly, other.poly)
    return sign_at(shared, low) * sign_at(shared, high) < 0


# Of two that are no ratios and not the same: the first one's pair is drawn together until the other isn't in it.
def parted(one, other):
    pair = one.pair
    width = (1, 16)
    while True:
        if against(other, pair[0]) < 0:
            return 1
        if against(other, pair[1]) > 0:
            return -1
        pair = narrowed(one.poly, pair, width)
        width = times(width, width)


def compared(one, other):
    if as_ratio(other) is not None:
        return against(one, as_ratio(other))
    if as_ratio(one) is not None:
        return -against(other, as_ratio(one))
    return 0 if are_same(one, other) else parted(one, other)


def sign_of(number):
    return against(number, (0, 1))


# The greatest whole number that isn't above the number times the scale, a whole number above 0.
def floor_times(number, scale):
    low = narrowed(number.poly, number.pair, (1, scale))[0]
    # The number times the scale is less than 2 above this one.
    whole = low[0] * scale // low[1]
    return whole if against(number, ratio(whole + 1, scale)) < 0 else whole + 1


def floor_of(number):
    return floor_times(number, 1)

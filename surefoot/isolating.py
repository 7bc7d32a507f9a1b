"""Real roots told apart, each between two ratios, which can be drawn together."""

from surefoot.counting import chain_of, changes_at, changes_in
from surefoot.errors import TooGreat
from surefoot.polys import composed, degree, height_at, square_free
from surefoot.ratios import middle, ratio, sign

GREATEST_DEGREE = 12


# Whether each number's size is at most the last one's times the reach to the power of the places between them.
def is_within(free, reach):
    bound = abs(free[-1])
    for number in reversed(free[:-1]):
        bound = bound * reach
        if abs(number) > bound:
            return False
    return True


# Each root is less than twice such a reach in size: further out the last part is greater than the others together,
# as these come to less than a half, a quarter, and so on, of it.
def bound_of(free):
    reach = 1
    while not is_within(free, reach):
        reach = 2 * reach
    return 2 * reach


# A pair with all real roots between. A root that is a ratio has an under that divides the last number. The odd number
# doesn't, but stays in the under of each ratio that comes of the pair by halving: so none of these is ever a root.
def pair_around_all(free):
    odd = 3
    while free[-1] % odd == 0:
        odd = odd + 2
    bound = bound_of(free) + 1
    return (ratio(1 - odd * bound, odd), ratio(1 + odd * bound, odd))


def marked(chain, given):
    return (given, changes_at(chain, given))


def isolated(poly):
    if degree(poly) > GREATEST_DEGREE:
        raise TooGreat("the degree is above 12")
    free = square_free(poly)
    chain = chain_of(free)
    around = pair_around_all(free)
    waiting = [(marked(chain, around[0]), marked(chain, around[1]))]
    found = []
    while waiting:
        stretch = waiting.pop()
        low = stretch[0]
        high = stretch[1]
        many = low[1] - high[1]
        if many == 1:
            found.append((low[0], high[0]))
        if many > 1:
            cut = marked(chain, middle(low[0], high[0]))
            # The last one is taken first, and the pairs are to rise.
            waiting.append((cut, high))
            waiting.append((low, cut))
    return found


# A stretch is (low, high, under): from low / under to high / under. Whole numbers over one under are cut into parts
# without looking for common divisors at each step.
def stretch_of(pair):
    low = pair[0]
    high = pair[1]
    return (low[0] * high[1], high[0] * low[1], low[1] * high[1])


def parts_needed(stretch, width):
    room = width[0] * stretch[2]
    return ((stretch[1] - stretch[0]) * width[1] + room - 1) // room


# The stretch between two of its places, or one of these alone if it is the root; None if the root isn't there.
def part_between(free, stretch, parts, near, far):
    under = stretch[2] * parts
    start = sign(height_at(free, stretch[0], stretch[2]))
    at_near = sign(height_at(free, near, under))
    if at_near == 0:
        return (near, near, under)
    at_far = sign(height_at(free, far, under))
    if at_far == 0:
        return (far, far, under)
    return (near, far, under) if at_near == start and at_far != start else None


# The part where the root would be if the heights between the ends lay on a line; None if it isn't in that part.
def guessed(free, stretch, parts):
    step = stretch[1] - stretch[0]
    at_low = abs(height_at(free, stretch[0], stretch[2]))
    at_high = abs(height_at(free, stretch[1], stretch[2]))
    part = parts * at_low // (at_low + at_high)
    near = stretch[0] * parts + step * part
    return part_between(free, stretch, parts, near, near + step)


def halved(free, stretch):
    cut = stretch[0] + stretch[1]
    lower = part_between(free, stretch, 2, 2 * stretch[0], cut)
    return (cut, 2 * stretch[1], 2 * stretch[2]) if lower is None else lower


# Of a polynomial with no root twice. Near to the root the heights do lie nearly on a line, so more and more parts at
# once can be made: from some place on each step makes the true digits twice as many.
def narrowed(free, pair, width):
    stretch = stretch_of(pair)
    parts = 4
    needed = parts_needed(stretch, width)
    while needed > 1:
        found = guessed(free, stretch, min(parts, needed))
        parts = 4 if found is None else parts * parts
        stretch = halved(free, stretch) if found is None else found
        needed = parts_needed(stretch, width)
    return (ratio(stretch[0], stretch[2]), ratio(stretch[1], stretch[2]))


# Whether the pair has one root between, and no root is at its ends. Of some wide pairs it isn't told though it is so,
# but of each about a root that is narrow enough. A chain would tell it of wide pairs too, but out of numbers that are
# many times as long.
def is_alone(free, pair):
    stretch = stretch_of(pair)
    # Its roots above 0 stand for the roots between, as (low + high * t) / (1 + t) is between for a t above 0 alone; and
    # it is shorter, or begins with 0, if an end is a root.
    poly = composed(free, [stretch[0], stretch[1]], [stretch[2], stretch[2]])
    # One change of sign means one root above 0 (Descartes' rule).
    return len(poly) == len(free) and poly[0] != 0 and changes_in(poly) == 1


def refined(poly, pair, width):
    return narrowed(square_free(poly), pair, width)


def counted_in(poly, low, high):
    chain = chain_of(square_free(poly))
    return changes_at(chain, low) - changes_at(chain, high)

"""How many roots lie where, read off the changes of sign along a row of numbers."""

from surefoot.polys import derivative, sign_at, trimmed
from surefoot.ratios import power, sign


# Noughts are passed over.
def changes_in(row):
    many = 0
    before = 0
    for number in row:
        if number * before < 0:
            many = many + 1
        if number != 0:
            before = sign(number)
    return many


# The remainder by the other one, times a number above 0: the size of the other's last number, to a power that is one
# more than the gap between the degrees. Only with that full power is it known in chain_of what divides it.
def remainder(one, other):
    size = abs(other[-1])
    turn = sign(other[-1])
    rest = list(one)
    for shift in range(len(one) - len(other), -1, -1):
        factor = rest.pop() * turn
        rest = [number * size for number in rest]
        for power_of_x, number in enumerate(other[:-1]):
            rest[shift + power_of_x] = rest[shift + power_of_x] - factor * number
    return trimmed(rest)


# Of a polynomial with no root twice: itself, its derivative, then each time the remainder of the last two with the
# other sign, over some number above 0. The remainders are, but for signs, multiples of subresultants, and what is
# shared is the known multiple: without dividing by it the numbers would grow twofold in length from step to step.
def chain_of(free):
    chain = [free, derivative(free)]
    size = 1
    scale = 1
    while len(chain[-1]) > 1:
        one = chain[-2]
        other = chain[-1]
        gap = len(one) - len(other)
        shared = size * power(scale, gap)
        chain.append([-number // shared for number in remainder(one, other)])
        size = abs(other[-1])
        scale = power(size, gap) // power(scale, gap - 1)
    return chain


# From a ratio to a greater one the changes grow fewer by the roots that are above the one and not above the other: that
# is Sturm's theorem.
def changes_at(chain, given):
    return changes_in([sign_at(poly, given) for poly in chain])

"""Parts: exact fractions as tuples (top, bottom) in lowest terms, bottom from 1 on."""

from quits.errors import NoPart
from quits.wholes import divisor


def part(top, bottom):
    if bottom == 0:
        raise NoPart("no part has the bottom 0")
    common = divisor(top, bottom)
    if bottom < 0:
        # The bottom is from 1 on, so the sign goes to the top.
        common = -common
    return (top // common, bottom // common)


def plus(one, other):
    # Both are in lowest terms, so only what the bottoms share can divide the new top too. Looking no farther keeps
    # the numbers handed to divisor small, also where a long list is added up.
    shared = divisor(one[1], other[1])
    top = one[0] * (other[1] // shared) + other[0] * (one[1] // shared)
    common = divisor(top, shared)
    return (top // common, (one[1] // shared) * (other[1] // common))


def minus(one, other):
    return plus(one, (-other[0], other[1]))


def times(one, other):
    # Both are in lowest terms, so only a top and the other one's bottom can share a divisor.
    down = divisor(one[0], other[1])
    across = divisor(other[0], one[1])
    top = (one[0] // down) * (other[0] // across)
    bottom = (one[1] // across) * (other[1] // down)
    return (top, bottom)


def over(one, other):
    if other[0] == 0:
        raise NoPart("no part is divided by 0")
    if other[0] < 0:
        return times(one, (-other[1], -other[0]))
    return times(one, (other[1], other[0]))


def under(one, other):
    # Bottoms are above 0, so multiplying by them keeps the order.
    return one[0] * other[1] < other[0] * one[1]


def least(one, other):
    if under(other, one):
        return other
    return one


def total(some):
    added = (0, 1)
    for each in some:
        added = plus(added, each)
    return added


def whole_of(one):
    return one[0] // one[1]

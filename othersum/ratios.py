"""Ratios: fractions in lowest terms, as tuples (top, bottom) with bottom from 1 on."""

from othersum.errors import NoRatio


def greatest_divisor(one, other):
    while other != 0:
        rest = one % other
        one = other
        other = rest
    return abs(one)


def ratio_of(top, bottom):
    if bottom == 0:
        raise NoRatio("a ratio has no bottom 0")
    divisor = greatest_divisor(top, bottom)
    # The sign of a ratio stands in its top alone.
    if bottom < 0:
        divisor = -divisor
    return (top // divisor, bottom // divisor)


def plus(one, other):
    return ratio_of(one[0] * other[1] + other[0] * one[1], one[1] * other[1])


def minus(one, other):
    return ratio_of(one[0] * other[1] - other[0] * one[1], one[1] * other[1])


def times(one, other):
    return ratio_of(one[0] * other[0], one[1] * other[1])


# Nought as the second gives a bottom 0, which ratio_of refuses.
def over(one, other):
    return ratio_of(one[0] * other[1], one[1] * other[0])


# Both bottoms are above 0, so multiplying by them keeps the order.
def less(one, other):
    return one[0] * other[1] < other[0] * one[1]


# Halves are put together, as a sum of many ratios one by one would seek divisors of its full length each time.
def total(ratios):
    if len(ratios) == 0:
        return (0, 1)
    if len(ratios) == 1:
        return ratios[0]
    half = len(ratios) // 2
    return plus(total(ratios[:half]), total(ratios[half:]))


def lesser(one, other):
    return other if less(other, one) else one


# The least number that, times each of the ratios, is a whole number.
def common_bottom(ratios):
    bottom = 1
    for ratio in ratios:
        bottom = bottom * (ratio[1] // greatest_divisor(bottom, ratio[1]))
    return bottom


# bottom is one that the ratio's own bottom divides.
def top_over(ratio, bottom):
    return ratio[0] * (bottom // ratio[1])

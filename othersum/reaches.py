"""How far b comes by weights that are so uneven from a's, and by how little uneven ones it comes level."""

from othersum.bounds import check_same_parts
from othersum.counts import share_of
from othersum.mixings import ends_of, shares_in, weights_of, whole_count
from othersum.pushes import mixed_share
from othersum.ratios import common_bottom, less, lesser, minus, over, plus, ratio_of, times, top_over


# What is moved to the greatest share brings the most where it is taken from the least shares first.
def reach(table, a, b):
    check_same_parts(table, a, b)
    greatest = ends_of(table, b)[2]
    moved = (0, 1)
    share = mixed_share(table, b, weights_of(table, a))
    corners = [(moved, share)]
    for low, weight in levels(table, a, b):
        if low != greatest:
            moved = plus(moved, weight)
            share = plus(share, times(weight, minus(greatest, low)))
            corners.append((moved, share))
    return corners


def level(table, a, b):
    corners = reach(table, a, b)
    ends = ends_of(table, b)
    due = share_of(whole_count(table, a))
    if less(ends[2], due):
        return ("never", ends[3])
    if not less(corners[0][1], due):
        return ("can", (0, 1), weights_of(table, a), None)
    place = 0
    while less(corners[place + 1][1], due):
        place = place + 1
    bar = levels(table, a, b)[place][0]
    rest = over(minus(due, corners[place][1]), minus(ends[2], bar))
    least = plus(corners[place][0], rest)
    weights = weights_left(table, a, b, bar, rest)
    weights[ends[3]] = plus(weights[ends[3]], least)
    return ("can", least, weights, bar)


# The shares of b, rising, each with the weight that a has in the parts of that share.
def levels(table, a, b):
    tried = {}
    for part, share in enumerate(shares_in(table, b)):
        if share is not None:
            tried[share] = tried.get(share, 0) + table[part][a][0]
    whole = whole_count(table, a)[0]
    return [(share, ratio_of(tried[share], whole)) for share in rising(list(tried))]


def rising(shares):
    bottom = common_bottom(shares)
    return sorted(shares, key=lambda share: top_over(share, bottom))


# The weights of a without those where the share of b is below the bar, and without the rest where it is at it.
def weights_left(table, a, b, bar, rest):
    told = []
    for weight, share in zip(weights_of(table, a), shares_in(table, b)):
        if share is not None and less(share, bar):
            weight = (0, 1)
        elif share == bar:
            taken = lesser(rest, weight)
            rest = minus(rest, taken)
            weight = minus(weight, taken)
        told.append(weight)
    return told

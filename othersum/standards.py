"""Shares by standard weights, how they move, and the gap laid out in two ways."""

from othersum.bounds import check_same_parts
from othersum.houses import check_house, houses_of
from othersum.mixings import shares_in, weights_of
from othersum.pushes import mixed_share
from othersum.ratios import minus, plus, times
from othersum.ways import as_weights, check_standard, check_tried


def standard(table, weights):
    check_standard(table, weights)
    return [standard_share(table, house, weights) for house in range(houses_of(table))]


def standard_share(table, house, weights):
    for part, weight in zip(table, weights):
        if weight > 0 and part[house][0] == 0:
            return None
    return mixed_share(table, house, as_weights(weights))


def moved(table, house, weights, others):
    check_house(houses_of(table), house)
    check_standard(table, weights)
    check_standard(table, others)
    check_tried(table, [house], weights, others)
    told = []
    for share, weight, other in zip(shares_in(table, house), as_weights(weights), as_weights(others)):
        told.append((0, 1) if share is None else times(minus(other, weight), share))
    return told


def two_ways(table, a, b):
    check_same_parts(table, a, b)
    # Each row: the weights of a and b in a part, then their shares there.
    rows = list(zip(weights_of(table, a), weights_of(table, b), shares_in(table, a), shares_in(table, b)))
    return ([by_shares(row) for row in rows], [by_weights(row) for row in rows])


def by_shares(row):
    if row[2] is None:
        return (0, 1)
    return times(middle(row[0], row[1]), minus(row[2], row[3]))


def by_weights(row):
    if row[2] is None:
        return (0, 1)
    return times(minus(row[0], row[1]), middle(row[2], row[3]))


def middle(one, other):
    return times(plus(one, other), (1, 2))

"""What weights are uneven by, parts lie apart by and lead by, and the bounds of the gap of two wholes."""

from othersum.errors import NoShare
from othersum.houses import check_pair, houses_of
from othersum.mixings import ends_among, ends_of, shares_in, weights_of, whole_count, whole_gap
from othersum.ratios import less, lesser, minus, plus, times, total


def uneven(table, a, b):
    check_pair(houses_of(table), a, b)
    weights = weights_of(table, a)
    others = weights_of(table, b)
    parts = [part for part in range(len(table)) if less(others[part], weights[part])]
    return (total([minus(weights[part], others[part]) for part in parts]), parts)


def apart(table, house):
    ends = ends_of(table, house)
    return minus(ends[2], ends[0])


def leads(table, a, b):
    check_same_parts(table, a, b)
    told = []
    for share, other in zip(shares_in(table, a), shares_in(table, b)):
        told.append(None if share is None else minus(share, other))
    return ends_among(told)


def gap(table, a, b):
    ends = leads(table, a, b)
    slack = times(uneven(table, a, b)[0], lesser(apart(table, a), apart(table, b)))
    return (minus(ends[0], slack), whole_gap(table, a, b), plus(ends[2], slack))


# Behind this a part has shares of both houses or of neither.
def check_same_parts(table, a, b):
    check_pair(houses_of(table), a, b)
    whole_count(table, a)
    whole_count(table, b)
    for part, counts in enumerate(table):
        if counts[a][0] == 0 and counts[b][0] > 0:
            raise NoShare(part, a)
        if counts[b][0] == 0 and counts[a][0] > 0:
            raise NoShare(part, b)

"""Mixed shares by any weights, weights pushed to a part, and how a push brings b above a."""

from othersum.counts import is_within, share_of
from othersum.errors import NoShare, NoTable, NoWeights
from othersum.houses import check_house, check_pair, houses_of
from othersum.mixings import ends_of, weights_of, whole_gap
from othersum.ratios import less, minus, over, plus, times, total


def mixed(table, house, weights):
    check_house(houses_of(table), house)
    check_weights(table, weights)
    for part, weight in enumerate(weights):
        if weight[0] > 0 and table[part][house][0] == 0:
            raise NoShare(part, house)
    return mixed_share(table, house, weights)


def pushed(table, house, part, t):
    weights = weights_of(table, house)
    if not is_within(part, 0, len(table) - 1):
        raise NoTable("no part's number")
    if less(t, (0, 1)) or less((1, 1), t):
        raise NoWeights("a push is from 0 to 1")
    kept = minus((1, 1), t)
    told = [times(kept, weight) for weight in weights]
    told[part] = plus(told[part], t)
    return told


def push(table, a, b):
    check_pair(houses_of(table), a, b)
    ends = ends_of(table, a)
    others = ends_of(table, b)
    if not less(ends[0], others[2]):
        return ("never", ends[1], others[3])
    t = push_to_level(whole_gap(table, a, b), minus(others[2], ends[0]))
    return ("can", ends[1], others[3], t)


# At t the lead is 1 - t times what it was, less t times how far the greatest share of b is above the least of a.
def push_to_level(lead, reach):
    if not less((0, 1), lead):
        return (0, 1)
    return over(lead, plus(lead, reach))


# Only for weights that are nought where the house wasn't tried: there is no share there to mix.
def mixed_share(table, house, weights):
    pieces = []
    for part, weight in zip(table, weights):
        if weight[0] > 0:
            pieces.append(times(weight, share_of(part[house])))
    return total(pieces)


def check_weights(table, weights):
    if len(weights) != len(table):
        raise NoWeights("not as many weights as parts")
    if any([weight[0] < 0 for weight in weights]):
        raise NoWeights("a weight below nought")
    if total(weights) != (1, 1):
        raise NoWeights("weights that don't come to 1")

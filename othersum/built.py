"""Tables that meet the bound of the gap, and tables in which a lead is laid to a mark alone."""

from othersum.counts import share_of
from othersum.errors import NoTable
from othersum.ratios import common_bottom, less, lesser, minus, over, plus, times, top_over


# House 1 has the shares 0 and apart, house 0 lead more in both parts; house 1 was tried more in the part with the
# greater shares, by just so much that the gap is as far below lead as it can be.
def meeting(lead, apart, uneven):
    if not less((0, 1), lead) or not less((0, 1), apart) or less((1, 1), plus(lead, apart)):
        raise NoTable("no lead and apart above nought that come to at most 1")
    if not less((0, 1), uneven) or not less(uneven, (1, 1)):
        raise NoTable("not uneven by more than nought and less than 1")
    weight = half(minus((1, 1), uneven))
    ones = counts_by(minus((1, 1), weight), lead, plus(lead, apart))
    others = counts_by(weight, (0, 1), apart)
    return list(zip(ones, others))


# Both houses have the shares low and low + spread; the weight of house 0 in the part of the greater share is uneven
# more than that of house 1, so spread has to be the whole lead over uneven.
def laid(one, other, uneven):
    if one[0] == 0 or other[0] == 0:
        raise NoTable("a count that wasn't tried")
    share = share_of(one)
    lead = minus(share, share_of(other))
    if not less(lead, share) or not less((0, 1), lead) or not less(share, (1, 1)):
        raise NoTable("no shares below 1 and above nought, the first the greater one")
    if less(uneven, lead) or not less(uneven, (1, 1)):
        raise NoTable("not uneven by the lead or more and less than 1")
    spread = over(lead, uneven)
    weight = high_weight(share, spread, uneven)
    low = minus(share, times(weight, spread))
    high = plus(low, spread)
    ones = counts_by(weight, high, low)
    others = counts_by(minus(weight, uneven), high, low)
    return list(zip(ones, others))


# The weight of house 0 lies above uneven and below 1, and so that low is no less than nought and high no more than 1;
# the middle of these bounds always does.
def high_weight(share, spread, uneven):
    most = lesser((1, 1), over(share, spread))
    least = minus((1, 1), over(minus((1, 1), share), spread))
    if less(least, uneven):
        least = uneven
    return half(plus(least, most))


def half(ratio):
    return times(ratio, (1, 2))


# The least counts in two parts with these shares, of which the first has that weight.
def counts_by(weight, share, other):
    weights = [weight, minus((1, 1), weight)]
    wells = [times(weights[0], share), times(weights[1], other)]
    tried = common_bottom(weights + wells)
    return [(top_over(weights[part], tried), top_over(wells[part], tried)) for part in (0, 1)]

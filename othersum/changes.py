"""How few cases a lead rests on."""

from othersum.counts import said
from othersum.errors import NoLead
from othersum.houses import check_pair, houses_of


def fewest(one, other):
    return fewest_changes(one, other, lead_of(one, other))


def fewest_below(one, other):
    return fewest_changes(one, other, lead_of(one, other) + 1)


# A part that doesn't say 1 is refused by fewest.
def weakest(table, a, b):
    check_pair(houses_of(table), a, b)
    told = [fewest(part[a], part[b]) for part in table]
    sums = [sum(changes) for changes in told]
    part = sums.index(min(sums))
    return (part, told[part][0], told[part][1])


# How far the first share is above the second, both laid on one bottom.
def lead_of(one, other):
    if said(one, other) != 1:
        raise NoLead("the first isn't above the second")
    return one[1] * other[0] - other[1] * one[0]


# A well of one told as an ill takes the tried of other off the lead, an ill of other told as a well the tried of one.
# Of the sort that takes more there are always enough to take off the whole lead, and any change behind them takes off
# the 1 more that below asks for: so it is as few as if all were of that sort. What is taken off too much is room for p.
def fewest_changes(one, other, due):
    many = over_up(due, max(one[0], other[0]))
    p = min(many, one[1])
    if one[0] > other[0]:
        spare = many * one[0] - due
        p = min(p, spare // (one[0] - other[0]))
    return (p, many - p)


def over_up(top, bottom):
    return (top + bottom - 1) // bottom

"""How few cases a lead rests on."""

from othersum.counts import said
from othersum.errors import NoLead
from othersum.turnings import says


def fewest(one, other):
    return fewest_changes(one, other, lead_of(one, other))


def fewest_below(one, other):
    return fewest_changes(one, other, lead_of(one, other) + 1)


def weakest(table, a, b):
    if any([number != 1 for number in says(table, a, b)]):
        raise NoLead("a part that doesn't say 1")
    told = [fewest(part[a], part[b]) for part in table]
    sums = [sum(changes) for changes in told]
    part = sums.index(min(sums))
    return (part, told[part][0], told[part][1])


# How far the first share is above the second, both laid on one bottom.
def lead_of(one, other):
    if said(one, other) != 1:
        raise NoLead("the first isn't above the second")
    return one[1] * other[0] - other[1] * one[0]


# A well of one told as an ill takes the tried of other off the lead, an ill of other told as a well the tried of one.
# The greater of both goes first; of as few changes the greatest p is then told.
def fewest_changes(one, other, due):
    ills = other[0] - other[1]
    if other[0] >= one[0]:
        many = steps(due, other[0], one[1], one[0])
        p = min(many, one[1])
    else:
        many = steps(due, one[0], ills, other[0])
        spare = many * one[0] - due
        p = min(many, one[1], spare // (one[0] - other[0]))
    return (p, many - p)


# The fewest steps that come to due, where at most so many of the greater kind can be made.
def steps(due, great, most, small):
    if due <= great * most:
        return over_up(due, great)
    return most + over_up(due - great * most, small)


def over_up(top, bottom):
    return (top + bottom - 1) // bottom

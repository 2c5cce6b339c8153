"""Two counts parted into parts that all say that the second is the greater one."""

from othersum.counts import is_within
from othersum.errors import NoTable

LEAST_PARTS = 2
MOST_PARTS = 8


# A part says -1 just where wells of one times ills of other are less than wells of other times ills of one. So each
# part gets an ill of one and a well of other, and the wells of one never stand in the part of the ills of other.
def parted(one, other, many):
    if not is_within(many, LEAST_PARTS, MOST_PARTS):
        raise NoTable("not two to eight parts")
    if ills_of(one) < many or other[1] < many:
        return None
    ones = counts_of(all_at(0, one[1], many), spread(ills_of(one), many))
    others = counts_of(spread(other[1], many), all_at(1, ills_of(other), many))
    return list(zip(ones, others))


def ills_of(count):
    return count[0] - count[1]


def counts_of(wells, ills):
    return [(well + ill, well) for well, ill in zip(wells, ills)]


def all_at(place, number, many):
    return [number if part == place else 0 for part in range(many)]


def spread(number, many):
    return [number - (many - 1)] + [1] * (many - 1)

"""The share of the whole as a mixing of the parts' shares by a house's weights."""

from othersum.counts import share_of
from othersum.errors import NoShare
from othersum.houses import check_house, houses_of
from othersum.ratios import less, minus, ratio_of
from othersum.turnings import sums_of


def weights_of(table, house):
    tried = whole_count(table, house)[0]
    return [ratio_of(part[house][0], tried) for part in table]


def mixing(table, house):
    rows = []
    for weight, share in zip(weights_of(table, house), shares_in(table, house)):
        rows.append(None if share is None else (weight, share))
    return (share_of(whole_count(table, house)), rows)


def ends_of(table, house):
    whole_count(table, house)
    return ends_among(shares_in(table, house))


def whole_count(table, house):
    check_house(houses_of(table), house)
    count = sums_of(table)[house]
    if count[0] == 0:
        raise NoShare(None, house)
    return count


def whole_gap(table, a, b):
    return minus(share_of(whole_count(table, a)), share_of(whole_count(table, b)))


def shares_in(table, house):
    return [share_of(part[house]) for part in table]


# Some of the ratios may be None, not all of them: (least, i, greatest, j), i and j the first places.
def ends_among(ratios):
    places = [place for place, ratio in enumerate(ratios) if ratio is not None]
    least = places[0]
    greatest = places[0]
    for place in places:
        if less(ratios[place], ratios[least]):
            least = place
        if less(ratios[greatest], ratios[place]):
            greatest = place
    return (ratios[least], least, ratios[greatest], greatest)

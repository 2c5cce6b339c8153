"""Counts: tuples (tried, well), well from 0 to tried."""

from othersum.ratios import ratio_of


# Python takes True and False for ints; here a truth is no whole number.
def is_whole(thing):
    return isinstance(thing, int) and not isinstance(thing, bool)


def is_within(thing, least, most):
    return is_whole(thing) and least <= thing <= most


def is_count(thing):
    if not isinstance(thing, tuple) or len(thing) != 2:
        return False
    if not is_whole(thing[0]) or not is_whole(thing[1]):
        return False
    return 0 <= thing[1] <= thing[0]


def together(counts):
    tried = sum([count[0] for count in counts])
    well = sum([count[1] for count in counts])
    return (tried, well)


# many is told beside the rows, as there may be none of them.
def together_by_house(many, rows):
    return tuple([together([row[house] for row in rows]) for house in range(many)])


def share_of(count):
    if count[0] == 0:
        return None
    return ratio_of(count[1], count[0])


def said(one, other):
    if one[0] == 0 or other[0] == 0:
        return None
    # The shares laid on one bottom: nothing is rounded, however near they are.
    first = one[1] * other[0]
    second = other[1] * one[0]
    if first > second:
        return 1
    if first < second:
        return -1
    return 0

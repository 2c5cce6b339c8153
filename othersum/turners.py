"""The marks that turn a book, and the ranks of houses."""

from othersum.counts import said
from othersum.houses import check_pair
from othersum.parts import table_by
from othersum.turnings import turning


def turned_by(book, a, b):
    check_pair(book[0], a, b)
    if len(book[2]) == 0:
        return []
    return [some for some in choices(len(book[1])) if turning(table_by(book, some), a, b)[0] == "turned"]


# Each rising tuple of at least one mark, the shorter ones first, as long ones rising.
def choices(many):
    told = []
    longest = [()]
    while len(longest) > 0:
        longest = longer(longest, many)
        told.extend(longest)
    return told


def longer(tuples, many):
    told = []
    for some in tuples:
        start = some[-1] + 1 if len(some) > 0 else 0
        for mark in range(start, many):
            told.append(some + (mark,))
    return told


def ranks(counts):
    told = []
    left = [house for house, count in enumerate(counts) if count[0] > 0]
    while len(left) > 0:
        first = left[0]
        for house in left:
            if said(counts[house], counts[first]) == 1:
                first = house
        told.append([house for house in left if said(counts[house], counts[first]) == 0])
        left = [house for house in left if said(counts[house], counts[first]) != 0]
    return told

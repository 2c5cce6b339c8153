"""A book as a tree of parts by an order of marks, and the knots at which it turns."""

from othersum.counts import said
from othersum.houses import check_pair
from othersum.parts import check_marks, parts_by


def knots(book, order):
    check_marks(book, order)
    told = []
    for length in range(len(order) + 1):
        told.extend(parts_by(book, order[:length]))
    return told


def turned_knots(book, order, a, b):
    check_pair(book[0], a, b)
    found = knots(book, order)
    kids = says_of_kids(found, a, b)
    told = []
    for values, counts in found:
        numbers = kids.get(values, [])
        for number in (1, -1):
            all_say = len(numbers) > 0 and numbers.count(number) == len(numbers)
            if all_say and said(counts[a], counts[b]) != number:
                told.append((values, number))
    return told


# For the values of each knot that has kids a list of what these say.
def says_of_kids(found, a, b):
    kids = {}
    for values, counts in found:
        if len(values) > 0:
            kids.setdefault(values[:-1], []).append(said(counts[a], counts[b]))
    return kids

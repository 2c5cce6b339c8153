"""A mark hidden in a book, by whose kinds all parts say that b is the greater one."""

from othersum.books import MOST_KINDS, MOST_MARKS, gathered
from othersum.counts import is_within
from othersum.errors import NoTable, TooGreat
from othersum.houses import check_pair
from othersum.partings import counts_of, ills_of, parted
from othersum.parts import whole_of


def hidden(book, a, b, many):
    check_pair(book[0], a, b)
    if not is_within(many, 2, MOST_KINDS):
        raise NoTable("not two to six kinds")
    if len(book[1]) >= MOST_MARKS:
        raise TooGreat("a book of five marks")
    whole = whole_of(book)
    table = parted(whole[a], whole[b], many)
    if table is None:
        return None
    ones = split([cell[1][a] for cell in book[2]], [part[0] for part in table])
    others = split([cell[1][b] for cell in book[2]], [part[1] for part in table])
    pairs = []
    for place, cell in enumerate(book[2]):
        for kind in range(many):
            counts = list(cell[1]) if kind == 0 else [(0, 0)] * book[0]
            counts[a] = ones[place][kind]
            counts[b] = others[place][kind]
            pairs.append((cell[0] + (kind,), tuple(counts)))
    return (book[0], book[1] + (many,), tuple(gathered(book[0], pairs)))


# For each of the counts a list with what of it falls to each of the parts: both come to the same whole.
def split(counts, parts):
    wells = poured([count[1] for count in counts], [part[1] for part in parts])
    ills = poured([ills_of(count) for count in counts], [ills_of(part) for part in parts])
    return [counts_of(wells[place], ills[place]) for place in range(len(counts))]


# Each number goes into the first rooms that aren't full yet.
def poured(numbers, rooms):
    left = list(rooms)
    told = []
    for number in numbers:
        taken = filled(number, left)
        told.append(taken)
        left = [room - part for room, part in zip(left, taken)]
    return told


def filled(number, rooms):
    taken = []
    for room in rooms:
        taken.append(min(room, number - sum(taken)))
    return taken

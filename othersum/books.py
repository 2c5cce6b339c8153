"""Books: tuples (many, marks, cells), the counts of each house by the kinds of each mark."""

from othersum.counts import is_count, is_within, together_by_house
from othersum.errors import NoBook

LEAST_HOUSES = 2
MOST_HOUSES = 6
MOST_MARKS = 5
MOST_KINDS = 6
MOST_ROWS = 60
MOST_TRIED = 1000000000000


def book_of(many, marks, rows):
    if not is_within(many, LEAST_HOUSES, MOST_HOUSES):
        raise NoBook("not two to six houses")
    if not are_marks(marks):
        raise NoBook("no marks of a book")
    if not are_rows(rows, many, marks):
        raise NoBook("no rows of a book")
    pairs = [(tuple(row[1]), counts_of_row(row, many)) for row in rows]
    return (many, tuple(marks), tuple(gathered(many, pairs)))


def beside(one, other):
    if one[0] != other[0] or one[1] != other[1]:
        raise NoBook("books of other houses or marks")
    return (one[0], one[1], tuple(gathered(one[0], one[2] + other[2])))


# pairs of (kinds, counts) to a rising list of them, no kinds twice, none at which no house was tried.
def gathered(many, pairs):
    found = {}
    for kinds, counts in pairs:
        found.setdefault(kinds, []).append(counts)
    cells = [(kinds, together_by_house(many, found[kinds])) for kinds in sorted(found)]
    return [cell for cell in cells if is_tried(cell[1])]


def is_tried(counts):
    return any([count[0] > 0 for count in counts])


def counts_of_row(row, many):
    counts = [(0, 0)] * many
    counts[row[0]] = (row[2], row[3])
    return tuple(counts)


def are_marks(marks):
    if not isinstance(marks, (list, tuple)) or len(marks) > MOST_MARKS:
        return False
    return all([is_within(kinds, 1, MOST_KINDS) for kinds in marks])


def are_rows(rows, many, marks):
    if not isinstance(rows, (list, tuple)) or len(rows) > MOST_ROWS:
        return False
    return all([is_row(row, many, marks) for row in rows])


def is_row(row, many, marks):
    if not isinstance(row, tuple) or len(row) != 4:
        return False
    if not is_within(row[0], 0, many - 1) or not are_kinds(row[1], marks):
        return False
    return is_count((row[2], row[3])) and row[2] <= MOST_TRIED


def are_kinds(kinds, marks):
    if not isinstance(kinds, tuple) or len(kinds) != len(marks):
        return False
    return all([is_within(kind, 0, most - 1) for kind, most in zip(kinds, marks)])

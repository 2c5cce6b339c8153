"""The parts of a book by some marks, its whole, and a book within a kind of a mark."""

from othersum.books import gathered
from othersum.counts import is_within, together_by_house
from othersum.errors import NoMark


def parts_by(book, some):
    check_marks(book, some)
    return gathered(book[0], [(values_by(cell[0], some), cell[1]) for cell in book[2]])


def whole_of(book):
    return together_by_house(book[0], [cell[1] for cell in book[2]])


def within(book, mark, kind):
    check_mark(book, mark)
    if not is_within(kind, 0, book[1][mark] - 1):
        raise NoMark("no kind of the mark")
    cells = [(without(cell[0], mark), cell[1]) for cell in book[2] if cell[0][mark] == kind]
    return (book[0], without(book[1], mark), tuple(cells))


def table_by(book, some):
    return [part[1] for part in parts_by(book, some)]


def values_by(kinds, some):
    return tuple([kinds[mark] for mark in some])


def without(things, place):
    return things[:place] + things[place + 1:]


def check_mark(book, mark):
    if not is_within(mark, 0, len(book[1]) - 1):
        raise NoMark("no mark's number")


def check_marks(book, some):
    if not isinstance(some, tuple):
        raise NoMark("no tuple of marks")
    for mark in some:
        check_mark(book, mark)
    if len(set(some)) != len(some):
        raise NoMark("a mark twice")

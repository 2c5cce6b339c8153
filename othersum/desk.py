"""The desk: rows of words asked of a book with names, answered with texts."""

from othersum.books import beside, book_of
from othersum.bounds import gap
from othersum.changes import fewest
from othersum.errors import NoBack, NoName, NoRow, NoTable
from othersum.hidden import hidden
from othersum.houses import check_pair
from othersum.parts import parts_by, table_by, whole_of
from othersum.pushes import push
from othersum.reaches import level
from othersum.texts import are_names, is_name, is_number, read, show
from othersum.trees import turned_knots
from othersum.turners import ranks, turned_by
from othersum.turnings import turning

# How many words a row has at least and at most, its first one too; None: as many as there are.
LENGTHS = {
    "show": (1, 1),
    "whole": (1, 1),
    "ranks": (1, 1),
    "back": (1, 1),
    "parts": (1, None),
    "turn": (3, None),
    "push": (3, None),
    "gap": (3, None),
    "level": (3, None),
    "knots": (3, None),
    "marks": (3, 3),
    "few": (3, 3),
    "hide": (6, 10),
}


class Desk:
    def __init__(self, text):
        told = read(text)
        self.names = told[0]
        self.book = told[1]
        self.past = []

    def say(self, row):
        if not isinstance(row, str):
            raise NoRow("no text")
        words = row.split(" ")
        if words[0] == "case":
            return self.put_case(words)
        if words[0] not in LENGTHS or not has_right_length(words):
            raise NoRow("no such row")
        if words[0] == "hide":
            return self.hide(words)
        if words[0] == "back":
            return self.take_back()
        return answer(self.names, self.book, words)

    def put_case(self, words):
        row = case_of(self.names, words)
        book = beside(self.book, book_of(self.book[0], self.book[1], [row]))
        return self.change(self.names, book)

    def hide(self, words):
        a = place_of(words[1], self.names[0])
        b = place_of(words[2], self.names[0])
        kinds = words[4:]
        if not is_name(words[3]) or words[3] in marks_named(self.names) or not are_names(kinds):
            raise NoName("no names of a new mark")
        book = hidden(self.book, a, b, len(kinds))
        if book is None:
            return "none"
        return self.change((self.names[0], self.names[1] + [(words[3], kinds)]), book)

    def change(self, names, book):
        self.past.append((self.names, self.book))
        self.names = names
        self.book = book
        return "ok"

    def take_back(self):
        if len(self.past) == 0:
            raise NoBack("nothing to take back")
        told = self.past.pop()
        self.names = told[0]
        self.book = told[1]
        return "ok"


def has_right_length(words):
    bounds = LENGTHS[words[0]]
    return bounds[0] <= len(words) and (bounds[1] is None or len(words) <= bounds[1])


def marks_named(names):
    return [name for name, kinds in names[1]]


def place_of(word, words):
    if word not in words:
        raise NoName("no name that is due there")
    return words.index(word)


# The row (house, kinds, tried, well) of the words of a case.
def case_of(names, words):
    if len(words) != 4 + len(names[1]) or not is_number(words[-2]) or not is_number(words[-1]):
        raise NoRow("no such case")
    house = place_of(words[1], names[0])
    kinds = [place_of(word, mark[1]) for word, mark in zip(words[2:-2], names[1])]
    return (house, tuple(kinds), int(words[-2]), int(words[-1]))


def answer(names, book, words):
    if words[0] == "show":
        return show(names, book)
    if words[0] == "whole":
        return " ".join([count_text(count) for count in whole_of(book)])
    if words[0] == "ranks":
        found = [named(names[0], houses, "=") for houses in ranks(whole_of(book))]
        return all_or_none(found, " ")
    if words[0] == "parts":
        return parts_answer(names, book, some_marks(names, words[1:]))
    a = place_of(words[1], names[0])
    b = place_of(words[2], names[0])
    some = some_marks(names, words[3:])
    if words[0] == "knots":
        return knots_answer(names, book, some, a, b)
    if words[0] == "marks":
        found = [named(marks_named(names), marks, ".") for marks in turned_by(book, a, b)]
        return all_or_none(found, " ")
    if words[0] == "few":
        return few_answer(book, a, b)
    return table_answer(names, words[0], table_for(book, some, a, b), a, b)


def some_marks(names, words):
    return tuple([place_of(word, marks_named(names)) for word in words])


def parts_answer(names, book, some):
    found = []
    for values, counts in parts_by(book, some):
        found.append(" ".join([values_text(names, some, values)] + [count_text(count) for count in counts]))
    return all_or_none(found, "; ")


def knots_answer(names, book, order, a, b):
    found = []
    for values, number in turned_knots(book, order, a, b):
        found.append(values_text(names, order, values) + ":" + said_name(names, number, a, b))
    return all_or_none(found, " ")


def few_answer(book, a, b):
    check_pair(book[0], a, b)
    whole = whole_of(book)
    return " ".join([str(number) for number in fewest(whole[a], whole[b])])


# Of a book without cells there is no table: that is told behind what the houses and the marks are refused for.
def table_for(book, some, a, b):
    check_pair(book[0], a, b)
    table = table_by(book, some)
    if len(table) == 0:
        raise NoTable("a book without cells")
    return table


def table_answer(names, word, table, a, b):
    if word == "gap":
        return " ".join([ratio_text(ratio) for ratio in gap(table, a, b)])
    if word == "turn":
        told = turning(table, a, b)
        if told[0] == "turned" or told[0] == "kept":
            return told[0] + " " + said_name(names, told[1], a, b)
        return told[0]
    if word == "push":
        told = push(table, a, b)
        return "never" if told[0] == "never" else "can " + ratio_text(told[3])
    told = level(table, a, b)
    return "never" if told[0] == "never" else "can " + ratio_text(told[1])


def said_name(names, number, a, b):
    return names[0][a] if number == 1 else names[0][b]


def values_text(names, some, values):
    if len(values) == 0:
        return "-"
    return ".".join([names[1][mark][1][kind] for mark, kind in zip(some, values)])


def named(names, places, sign):
    return sign.join([names[place] for place in places])


def all_or_none(found, sign):
    return sign.join(found) if len(found) > 0 else "none"


def ratio_text(ratio):
    return str(ratio[0]) + "/" + str(ratio[1])


def count_text(count):
    return str(count[1]) + "/" + str(count[0])

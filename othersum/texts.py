"""Books with their names written in lines, and texts read to them."""

from othersum.books import LEAST_HOUSES, MOST_HOUSES, MOST_KINDS, MOST_MARKS, counts_of_row, gathered
from othersum.errors import NoText

LONGEST_NAME = 8
MOST_FIGURES = 30


def show(names, book):
    lines = [["houses"] + list(names[0])]
    for name, kinds in names[1]:
        lines.append(["mark", name] + list(kinds))
    for kinds, counts in book[2]:
        words = [names[1][mark][1][kind] for mark, kind in enumerate(kinds)]
        for house, count in enumerate(counts):
            if count[0] > 0:
                lines.append(["case", names[0][house]] + words + [str(count[0]), str(count[1])])
    return "\n".join([" ".join(line) for line in lines])


def read(text):
    if not isinstance(text, str):
        raise NoText(0)
    lines = [line.split(" ") for line in text.split("\n")]
    if not is_houses_line(lines[0]):
        raise NoText(0)
    marks = marks_of(lines)
    names = (lines[0][1:], marks)
    many = len(names[0])
    pairs = [(row[1], counts_of_row(row, many)) for row in rows_of(lines, names)]
    book = (many, tuple([len(kinds) for name, kinds in marks]), tuple(gathered(many, pairs)))
    return (names, book)


def is_houses_line(words):
    return words[0] == "houses" and LEAST_HOUSES <= len(words) - 1 <= MOST_HOUSES and are_names(words[1:])


# The marks of the lines behind the first, up to one that is no mark's.
def marks_of(lines):
    marks = []
    for words in lines[1:]:
        if len(marks) == MOST_MARKS or not is_mark_line(words, [name for name, kinds in marks]):
            return marks
        marks.append((words[1], words[2:]))
    return marks


def is_mark_line(words, taken):
    if words[0] != "mark" or not 1 <= len(words) - 2 <= MOST_KINDS:
        return False
    return is_name(words[1]) and words[1] not in taken and are_names(words[2:])


# All lines behind those of the marks are cases, in the order of the cells and of the houses in each.
def rows_of(lines, names):
    rows = []
    for line in range(1 + len(names[1]), len(lines)):
        row = row_of(lines[line], names)
        if row is None or (len(rows) > 0 and not is_behind(row, rows[-1])):
            raise NoText(line)
        rows.append(row)
    return rows


def is_behind(row, other):
    return (row[1], row[0]) > (other[1], other[0])


# The row (house, kinds, tried, well) of a case's line, None where it is no such line.
def row_of(words, names):
    if words[0] != "case" or len(words) != 4 + len(names[1]):
        return None
    if words[1] not in names[0] or not is_number(words[-2]) or not is_number(words[-1]):
        return None
    kinds = []
    for word, mark in zip(words[2:-2], names[1]):
        if word not in mark[1]:
            return None
        kinds.append(mark[1].index(word))
    tried = int(words[-2])
    well = int(words[-1])
    if tried == 0 or well > tried:
        return None
    return (names[0].index(words[1]), tuple(kinds), tried, well)


def are_names(words):
    return all([is_name(word) for word in words]) and len(set(words)) == len(words)


def is_name(word):
    return 1 <= len(word) <= LONGEST_NAME and all(["a" <= sign <= "z" for sign in word])


# Figures are asked one by one, as isdigit takes other signs for figures too.
def is_number(word):
    if not 1 <= len(word) <= MOST_FIGURES or not all(["0" <= sign <= "9" for sign in word]):
        return False
    return word == "0" or word[0] != "0"

"""Sample books and tables, and what several tests look at. The choices are the same at each run."""

import copy
import random
from fractions import Fraction
from itertools import permutations, product

from othersum.books import beside, book_of
from othersum.errors import NoHouse, NoShare

GREAT = 10 ** 30 - 1

# What is no whole number, and so no number of a house, a mark, a kind or a part.
NO_NUMBERS = [True, False, None, "0", "", "house", 0.0, 1.0, 1j, (), (0,), [], [0], {}, {0: 1}, b"0", object(), int, len,
              Fraction(0), Fraction(1), float("nan"), range(1), frozenset((0,)), (0, 1), ((0,), (1,))]

# Each part says 1 of houses 0 and 1, the whole says -1.
TURNED = [((10, 9), (100, 80)), ((100, 30), (10, 2))]


def fraction(ratio):
    return Fraction(ratio[0], ratio[1])


def pair(value):
    """The ratio of a fraction, as a tuple in lowest terms."""
    value = Fraction(value)
    return (value.numerator, value.denominator)


def share(count):
    return None if count[0] == 0 else Fraction(count[1], count[0])


def sums(counts):
    counts = list(counts)
    return (sum(count[0] for count in counts), sum(count[1] for count in counts))


def some_count(chance, most):
    tried = chance.choice([0, 1, chance.randint(1, most), chance.randint(1, most)])
    return (tried, chance.randint(0, tried))


def some_tables(seed, many=60, houses=None, most=12, untried=True):
    """many tables of one to six parts."""
    chance = random.Random(seed)
    told = []
    for number in range(many):
        width = houses or chance.randint(2, 6)
        height = chance.randint(1, 6)
        table = [tuple(some_count(chance, most) for house in range(width)) for part in range(height)]
        if not untried:
            table = [tuple((count[0] + 1, count[1]) for count in part) for part in table]
        told.append(table)
    return told


def even_tables(seed, many=60, houses=None, most=12):
    """Tables in each part of which all houses were tried or none was, and all were tried somewhere."""
    chance = random.Random(seed)
    told = []
    for table in some_tables(seed, many, houses, most, untried=False):
        width = len(table[0])
        rows = [((0, 0),) * width if chance.random() < 0.2 else part for part in table[1:]]
        told.append(table[:1] + rows if chance.random() < 0.5 else rows + table[:1])
    return told


def assert_refused_as_leads(case, call):
    """call(table, a, b) refuses NoHouse, then houses tried in no part, a ahead of b, then parts of just one."""
    assert_no_pair(case, NoHouse, call, TURNED, 2)
    assert_no_pair(case, NoHouse, call, [((0, 0), (0, 0), (1, 1))], 3)
    table = [((4, 1), (0, 0), (0, 0), (1, 1)), ((0, 0), (0, 0), (0, 0), (2, 1)), ((3, 3), (0, 0), (0, 0), (0, 0))]
    for a, b, part, house in ((0, 1, None, 1), (1, 0, None, 1), (1, 2, None, 1), (2, 1, None, 2), (3, 2, None, 2),
                              (0, 3, 1, 0), (3, 0, 1, 0)):
        assert_no_share(case, part, house, call, table, a, b)
    assert_no_share(case, 1, 3, call, [table[0], table[2], table[1]], 0, 3)
    assert_no_share(case, 1, 3, call, [table[0], table[2], table[1]], 3, 0)
    for count in ((1, 1), (1, 0), (GREAT, 0), (GREAT, GREAT)):
        table = [((0, 0), (0, 0)), ((0, 0), count), ((2, 1), (2, 1))]
        assert_no_share(case, 1, 0, call, table, 0, 1)
        assert_no_share(case, 1, 0, call, table, 1, 0)
        table = [((1, 0), (1, 0)), (count, (0, 0)), ((0, 0), count)]
        assert_no_share(case, 1, 1, call, table, 0, 1)
        assert_no_share(case, 1, 1, call, table, 1, 0)


def assert_no_share(case, part, house, call, *handed):
    with case.assertRaises(NoShare) as caught:
        call(*handed)
    case.assertEqual((caught.exception.part, caught.exception.house), (part, house))


def some_rows(chance, many, marks, length, most=12):
    kinds = list(product(*[range(mark) for mark in marks]))
    return [(chance.randrange(many), chance.choice(kinds), *some_count(chance, most)) for row in range(length)]


def some_books(seed, many=30, most=12):
    """many books of none to four marks, some of them without cells."""
    chance = random.Random(seed)
    told = [book_of(2, (), ()), book_of(3, (2, 3), ())]
    while len(told) < many:
        houses = chance.randint(2, 4)
        marks = tuple(chance.randint(1, 4) for mark in range(chance.randint(0, 4)))
        rows = some_rows(chance, houses, marks, chance.randint(1, 60), most)
        told.append(book_of(houses, marks, rows))
    return told


def full_book(many, marks, step=7):
    """A book in which each house was tried at each cell, more than sixty cells perhaps."""
    book = book_of(many, marks, ())
    rows = []
    for place, kinds in enumerate(product(*[range(mark) for mark in marks])):
        for house in range(many):
            tried = 1 + (place * step + house * 3) % 11
            rows.append((house, kinds, tried, (place + house * step) % (tried + 1)))
    for start in range(0, len(rows), 60):
        book = beside(book, book_of(many, marks, rows[start:start + 60]))
    return book


def selections(count):
    """Every tuple of unlike numbers below count, in any order."""
    return [some for length in range(count + 1) for some in permutations(range(count), length)]


def assert_book(case, thing):
    """thing is a book, by each word of its promise."""
    case.assertIs(type(thing), tuple)
    many, marks, cells = thing
    case.assertIs(type(many), int)
    case.assertIn(many, range(2, 7))
    case.assertIs(type(marks), tuple)
    case.assertLessEqual(len(marks), 5)
    for mark in marks:
        case.assertIs(type(mark), int)
        case.assertIn(mark, range(1, 7))
    case.assertIs(type(cells), tuple)
    for cell in cells:
        case.assertIs(type(cell), tuple)
        kinds, counts = cell
        case.assertIs(type(kinds), tuple)
        case.assertEqual(len(kinds), len(marks))
        for kind, mark in zip(kinds, marks):
            case.assertIs(type(kind), int)
            case.assertIn(kind, range(mark))
        assert_counts(case, counts, many)
        case.assertTrue(any(count[0] > 0 for count in counts))
    order = [cell[0] for cell in cells]
    case.assertEqual(order, sorted(set(order)))


def assert_counts(case, counts, many):
    case.assertIs(type(counts), tuple)
    case.assertEqual(len(counts), many)
    for count in counts:
        case.assertIs(type(count), tuple)
        case.assertEqual([type(number) for number in count], [int, int])
        case.assertTrue(0 <= count[1] <= count[0])


def assert_table(case, thing, many):
    case.assertIs(type(thing), list)
    case.assertGreaterEqual(len(thing), 1)
    for part in thing:
        assert_counts(case, part, many)


def assert_ratio(case, told, due):
    """told is a ratio by its form, and is the fraction due."""
    case.assertIs(type(told), tuple)
    case.assertEqual([type(number) for number in told], [int, int])
    case.assertEqual(told, pair(due))


def spoil(thing):
    """Changes each list within thing, as an asker may do with what is told."""
    if isinstance(thing, (list, tuple)):
        for inner in thing:
            spoil(inner)
    if isinstance(thing, list):
        thing.reverse()
        thing.append("spoilt")


def assert_own(case, call, *handed):
    """What call tells is the asker's own, and nothing handed in is changed."""
    kept = copy.deepcopy(handed)
    first = call(*handed)
    case.assertEqual(handed, kept)
    due = copy.deepcopy(first)
    spoil(first)
    case.assertEqual(handed, kept)
    second = call(*handed)
    case.assertEqual(second, due)
    spoil(handed)
    case.assertEqual(second, due)
    case.assertEqual(call(*copy.deepcopy(kept)), due)


def assert_no_house(case, error, call, table_or_book, many):
    """call(thing, house) refuses whatever is no house's number."""
    for house in NO_NUMBERS + [-1, -many, many, many + 1, 7, GREAT, -GREAT]:
        with case.assertRaises(error):
            call(table_or_book, house)


def assert_no_pair(case, error, call, table_or_book, many):
    """call(thing, a, b) refuses what is no house's number in either place, and a and b alike."""
    wrong = NO_NUMBERS + [-1, -many, many, many + 1, 7, GREAT, -GREAT]
    for thing in wrong:
        for a, b in ((thing, 0), (thing, 1), (0, thing), (1, thing), (thing, thing)):
            with case.assertRaises(error):
                call(table_or_book, a, b)
    for house in range(many):
        with case.assertRaises(error):
            call(table_or_book, house, house)

"""What is promised over the whole program: what the modules tell agrees, and the interface stands as told."""

import importlib
import inspect
import random
import unittest
from itertools import permutations

from othersum.bounds import gap
from othersum.counts import said, share_of
from othersum.desk import Desk
from othersum.errors import NoShare
from othersum.hidden import hidden
from othersum.mixings import ends_of, mixing
from othersum.parts import parts_by, table_by, whole_of, within
from othersum.pushes import mixed, push
from othersum.reaches import level, reach
from othersum.standards import standard, two_ways
from othersum.texts import read, show
from othersum.trees import knots, turned_knots
from othersum.turners import ranks, turned_by
from othersum.turnings import grouped, says, sums_of, turning
from othersum.ways import firsts
from samples import fraction, selections, some_books, some_tables

INTERFACE = """
ratios ratio_of top bottom|plus one other|minus one other|times one other|over one other|less one other
counts is_count thing|together counts|share_of count|said one other
books book_of many marks rows|beside one other
parts parts_by book some|whole_of book|within book mark kind|table_by book some
turnings sums_of table|says table a b|turning table a b|grouped table groups
mixings weights_of table house|mixing table house|ends_of table house
pushes mixed table house weights|pushed table house part t|push table a b
ways firsts table weights others
bounds uneven table a b|apart table house|leads table a b|gap table a b
built meeting lead apart uneven|laid one other uneven
reaches reach table a b|level table a b
standards standard table weights|moved table house weights others|two_ways table a b
partings parted one other many
hidden hidden book a b many
trees knots book order|turned_knots book order a b
changes fewest one other|fewest_below one other|weakest table a b
turners turned_by book a b|ranks counts
texts show names book|read text
"""


def turned_books():
    """Books some of whose marks turn them: hidden ones, and what is told of them."""
    told = []
    for book in some_books(151, 40, most=9):
        for a, b in permutations(range(book[0]), 2):
            deeper = hidden(book, a, b, 2) if len(book[1]) < 3 else None
            told.append(deeper or book)
    return told


BOOKS = turned_books()


def names_of(book):
    marks = [("m" + "pqrst"[mark], list("uvwxyz")[:kinds]) for mark, kinds in enumerate(book[1])]
    return (list("abcdef")[:book[0]], marks)


class Interface(unittest.TestCase):
    def test_names_and_arguments(self):
        for line in INTERFACE.strip().split("\n"):
            name, rest = line.split(" ", 1)
            module = importlib.import_module("othersum." + name)
            for call in rest.split("|"):
                words = call.split(" ")
                found = inspect.signature(getattr(module, words[0]))
                self.assertEqual(list(found.parameters), words[1:], call)
                self.assertTrue(all(one.default is inspect.Parameter.empty for one in found.parameters.values()))

    def test_the_desk(self):
        self.assertTrue(inspect.isclass(Desk))
        self.assertEqual(list(inspect.signature(Desk).parameters), ["text"])
        self.assertEqual(list(inspect.signature(Desk.say).parameters), ["self", "row"])


class Books(unittest.TestCase):
    def test_by_whatever_marks_the_counts_come_to_the_whole(self):
        for book in BOOKS:
            whole = whole_of(book)
            for some in selections(len(book[1])):
                table = table_by(book, some)
                if table:
                    self.assertEqual(sums_of(table), whole)
            for mark, kinds in enumerate(book[1]):
                wholes = [whole_of(within(book, mark, kind)) for kind in range(kinds)]
                self.assertEqual(sums_of(wholes), whole)

    def test_fewer_marks_are_groups_of_more(self):
        for book in BOOKS:
            for some in selections(len(book[1])):
                parts = parts_by(book, some)
                for length in range(len(some) if parts else 0):
                    fewer = parts_by(book, some[:length])
                    groups = [[place for place, part in enumerate(parts) if part[0][:length] == values]
                              for values, counts in fewer]
                    self.assertEqual(grouped(table_by(book, some), groups), [counts for values, counts in fewer])

    def test_turnings_by_tables_trees_marks_and_the_desk_agree(self):
        turned = 0
        for book in BOOKS:
            names = names_of(book)
            desk = Desk(show(names, book))
            self.assertEqual(read(show(names, book)), (names, book))
            for a, b in permutations(range(book[0]), 2):
                pair = f"{names[0][a]} {names[0][b]}"
                told = turned_by(book, a, b)
                for mark in range(len(book[1])):
                    table = table_by(book, (mark,))
                    if not table:
                        continue
                    found = turning(table, a, b)
                    is_turned = found[0] == "turned"
                    self.assertEqual(is_turned, (mark,) in told)
                    self.assertEqual(turned_knots(book, (mark,), a, b), [((), found[1])] if is_turned else [])
                    name = names[1][mark][0]
                    if is_turned:
                        house = names[0][a if found[1] == 1 else b]
                        self.assertEqual(desk.say(f"turn {pair} {name}"), f"turned {house}")
                        self.assertEqual(desk.say(f"knots {pair} {name}"), f"-:{house}")
                        self.assertIn(name, desk.say(f"marks {pair}").split(" "))
                        turned += 1
                    else:
                        self.assertEqual(desk.say(f"knots {pair} {name}"), "none")
        self.assertGreater(turned, 50)

    def test_where_all_leaves_say_one_and_the_whole_another_a_knot_is_turned(self):
        looked = 0
        for book in BOOKS:
            for order in selections(len(book[1])):
                table = table_by(book, order)
                for a, b in permutations(range(book[0]), 2):
                    if table and turning(table, a, b)[0] == "turned":
                        number = turning(table, a, b)[1]
                        self.assertIn(number, [one for values, one in turned_knots(book, order, a, b)])
                        looked += 1
        self.assertGreater(looked, 50)

    def test_the_whole_is_told_alike(self):
        for book in BOOKS:
            names = names_of(book)
            desk = Desk(show(names, book))
            whole = whole_of(book)
            if not book[2]:
                continue
            self.assertEqual(knots(book, ())[0][1], whole)
            self.assertEqual(sums_of(table_by(book, ())), whole)
            order = [house for rank in ranks(whole) for house in rank]
            for place, a in enumerate(order):
                for b in order[place + 1:]:
                    number = said(whole[a], whole[b])
                    self.assertIn(number, (0, 1))
                    due = f"kept {names[0][a]}" if number == 1 else "open"
                    self.assertEqual(desk.say(f"turn {names[0][a]} {names[0][b]}"), due)
                    self.assertEqual(says([whole], a, b), [number])


class Tables(unittest.TestCase):
    def test_the_share_of_the_whole_lies_between_the_ends(self):
        for table in some_tables(152, 150):
            for house, count in enumerate(sums_of(table)):
                if count[0] > 0:
                    whole, rows = mixing(table, house)
                    least, i, greatest, j = ends_of(table, house)
                    self.assertEqual(whole, share_of(count))
                    self.assertTrue(fraction(least) <= fraction(whole) <= fraction(greatest))

    def test_a_push_brings_b_above_a_just_where_shares_cross(self):
        for table in some_tables(153, 150, untried=False):
            for a, b in permutations(range(len(table[0])), 2):
                crossing = fraction(ends_of(table, a)[0]) < fraction(ends_of(table, b)[2])
                self.assertEqual(push(table, a, b)[0], "can" if crossing else "never")

    def test_the_same_weights_turn_nothing_that_all_parts_say(self):
        chance = random.Random(154)
        looked = 0
        for table in some_tables(155, 900, houses=2, most=5, untried=False):
            if set(says(table, 0, 1)) != {1}:
                continue
            weights = [chance.randint(1, 9) for part in table]
            others = [chance.randint(1, 9) for part in table]
            self.assertEqual(firsts(table, weights, others), [((0, 1), (1, 1), [0])])
            first, second = standard(table, weights)
            self.assertGreater(fraction(first), fraction(second))
            looked += 1
        self.assertGreater(looked, 20)

    def test_firsts_begin_and_end_with_the_greatest_standard_shares(self):
        chance = random.Random(156)
        for table in some_tables(157, 100, untried=False):
            weights = [chance.randint(1, 9) for part in table]
            others = [chance.randint(1, 9) for part in table]
            told = firsts(table, weights, others)
            for stretch, one in ((told[0], weights), (told[-1], others)):
                shares = [fraction(share) for share in standard(table, one)]
                self.assertEqual({shares[house] for house in stretch[2]}, {max(shares)})

    def test_gaps_reaches_and_levels_agree(self):
        for table in some_tables(158, 150, untried=False):
            for a, b in permutations(range(len(table[0])), 2):
                low, middle, high = map(fraction, gap(table, a, b))
                self.assertTrue(low <= middle <= high)
                self.assertEqual(sum(map(fraction, sum(two_ways(table, a, b), []))), middle)
                told = level(table, a, b)
                whole = fraction(mixing(table, a)[0])
                corners = reach(table, a, b)
                if told[0] == "never":
                    self.assertLess(fraction(corners[-1][1]), whole)
                else:
                    self.assertGreaterEqual(fraction(mixed(table, b, told[2])), whole)
                    self.assertEqual(told[1] == (0, 1), fraction(corners[0][1]) >= whole)

    def test_refusals_of_untried_houses_agree(self):
        table = [((4, 1), (0, 0)), ((1, 0), (0, 0))]
        for call in (push, gap, reach, level, two_ways):
            with self.assertRaises(NoShare) as caught:
                call(table, 0, 1)
            self.assertEqual((caught.exception.part, caught.exception.house), (None, 1))


if __name__ == "__main__":
    unittest.main()

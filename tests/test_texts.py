import random
import unittest
from itertools import product

from othersum.books import book_of
from othersum.errors import NoText
from othersum.texts import read, show
from samples import GREAT, NO_NUMBERS, assert_book, assert_own, full_book, some_books

NAMES = (["ash", "birch", "cedar"], [("day", ["mon", "tue"]), ("size", ["big", "mid", "small"])])
BOOK = book_of(3, (2, 3), [(0, (0, 1), 4, 1), (2, (0, 1), 6, 5), (1, (1, 0), 3, 3), (0, (1, 2), 1, 0)])
LINES = ["houses ash birch cedar", "mark day mon tue", "mark size big mid small", "case ash mon mid 4 1",
         "case cedar mon mid 6 5", "case birch tue big 3 3", "case ash tue small 1 0"]
TEXT = "\n".join(LINES)
WORDS = ["a", "b", "zzzzzzzz", "case", "mark", "houses", "ab", "q"]


def names_for(book, seed=5):
    chance = random.Random(seed)
    houses = chance.sample(WORDS, book[0])
    marks = chance.sample(WORDS, len(book[1]))
    return (houses, [(name, chance.sample(WORDS, kinds)) for name, kinds in zip(marks, book[1])])


class Show(unittest.TestCase):
    def test_plain(self):
        self.assertEqual(show(NAMES, BOOK), TEXT)

    def test_no_cells_and_no_marks(self):
        self.assertEqual(show((["a", "b"], []), book_of(2, (), ())), "houses a b")
        self.assertEqual(show((["a", "b"], []), book_of(2, (), [(1, (), 10, 0)])), "houses a b\ncase b 10 0")
        self.assertEqual(show((["a", "b"], [("c", ["d"])]), book_of(2, (1,), ())), "houses a b\nmark c d")

    def test_great_counts(self):
        book = (2, (), (((), ((GREAT * 10, GREAT), (10 ** 3999, 7))),))
        self.assertEqual(show((["a", "b"], []), book), f"houses a b\ncase a {GREAT * 10} {GREAT}\ncase b 1{'0' * 3999} 7")

    def test_what_is_handed_in_stays(self):
        names = (["a", "b"], [("c", ["d", "e"])])
        assert_own(self, show, names, book_of(2, (2,), [(0, (1,), 3, 2)]))


class Read(unittest.TestCase):
    def test_plain(self):
        self.assertEqual(read(TEXT), (NAMES, BOOK))

    def test_kinds_of_what_is_told(self):
        told = read(TEXT)
        self.assertIs(type(told), tuple)
        names, book = told
        self.assertIs(type(names), tuple)
        self.assertEqual([type(part) for part in names], [list, list])
        for mark in names[1]:
            self.assertEqual([type(mark), type(mark[0]), type(mark[1])], [tuple, str, list])
        assert_book(self, book)

    def test_the_shortest_ones(self):
        self.assertEqual(read("houses a b"), ((["a", "b"], []), (2, (), ())))
        self.assertEqual(read("houses b a\nmark c d"), ((["b", "a"], [("c", ["d"])]), (2, (1,), ())))

    def test_one_word_may_name_several_things(self):
        text = "houses mark case\nmark mark mark case\nmark case mark\ncase case mark mark 7 7"
        names, book = read(text)
        self.assertEqual(names, (["mark", "case"], [("mark", ["mark", "case"]), ("case", ["mark"])]))
        self.assertEqual(book, (2, (2, 1), (((0, 0), ((0, 0), (7, 7))),)))
        self.assertEqual(show(names, book), text)

    def test_the_most_of_each(self):
        lines = ["houses a b c d e zzzzzzzz"]
        lines += [f"mark {name} a b c d e f" for name in "vwxyz"]
        lines += [f"case a a a a a a {GREAT} {GREAT}", f"case zzzzzzzz f f f f f {GREAT} 0"]
        names, book = read("\n".join(lines))
        assert_book(self, book)
        self.assertEqual(book[:2], (6, (6,) * 5))
        self.assertEqual(book[2][0][1][0], (GREAT, GREAT))
        self.assertEqual(show(names, book), "\n".join(lines))

    def test_written_and_read_again(self):
        for book in some_books(131, 60) + [full_book(2, (3, 4, 2))]:
            names = names_for(book)
            text = show(names, book)
            self.assertEqual(read(text), (names, book))
            self.assertFalse(text.endswith("\n"))

    def test_each_beginning_of_a_text_is_a_text(self):
        for length in range(1, len(LINES) + 1):
            names, book = read("\n".join(LINES[:length]))
            self.assertEqual(show(names, book), "\n".join(LINES[:length]))

    def test_what_is_told_is_the_askers_own(self):
        assert_own(self, read, TEXT)


class Refused(unittest.TestCase):
    def assert_line(self, line, text):
        with self.assertRaises(NoText, msg=text) as caught:
            read(text)
        self.assertEqual(caught.exception.line, line, text)

    def assert_wrong_in(self, line, words):
        """words in the place of a line are refused there, whatever stands behind them."""
        self.assert_line(line, "\n".join(LINES[:line] + [words] + LINES[line + 1:]))
        self.assert_line(line, "\n".join(LINES[:line] + [words]))
        self.assert_line(line, "\n".join(LINES[:line] + [words, "", "houses"]))

    def test_no_text(self):
        for thing in NO_NUMBERS:
            if not isinstance(thing, str):
                self.assert_line(0, thing)
        for thing in (0, 1, TEXT.encode(), [TEXT], (TEXT,), LINES):
            self.assert_line(0, thing)

    def test_empty_text(self):
        self.assert_line(0, "")
        self.assert_line(0, "\n")
        self.assert_line(0, "\n" + TEXT)

    def test_the_line_of_the_houses(self):
        for words in ("houses", "houses a", "houses a b c d e f g", "houses a a", "houses a b a", "houses a B", "houses a b1",
                      "houses a abcdefghi", "houses  a b", "houses a  b", "houses a b ", " houses a b", "house a b",
                      "Houses a b", "houses a b-c", "houses a b\t", "houses\ta b", "houses a ", "houses a b.", "a b",
                      "mark a b", "case a 1 1", "housesa b c", "houses a \u00e9", "houses a b\r"):
            self.assert_wrong_in(0, words)

    def test_the_line_of_a_mark(self):
        for words in ("mark", "mark q", "mark q a b c d e f g", "mark q a a", "mark q a b a", "mark Q a", "mark q A",
                      "mark q1 a", "mark q a1", "mark abcdefghi a", "mark q abcdefghi", "mark  q a", "mark q  a",
                      "mark q a ", " mark q a", "mark q ", "marks q a", "Mark q a", "houses q a", "mark q a\t", "",
                      " ", "mark q a\u00e9"):
            self.assert_wrong_in(1, words)
            self.assert_wrong_in(2, words)
        self.assert_wrong_in(2, "mark day a b")
        self.assert_wrong_in(2, "mark day mon tue")

    def test_a_sixth_mark(self):
        lines = ["houses a b"] + [f"mark {name} a" for name in "pqrst"]
        self.assertEqual(read("\n".join(lines))[1], (2, (1,) * 5, ()))
        self.assert_line(6, "\n".join(lines + ["mark u a"]))
        self.assert_line(6, "\n".join(lines + ["mark u a", "case a a a a a a 1 1"]))
        self.assert_line(6, "\n".join(lines + ["mark p a"]))

    def test_a_mark_or_houses_behind_a_case(self):
        self.assert_line(4, "\n".join(LINES[:4] + ["mark new a b"]))
        self.assert_line(4, "\n".join(LINES[:4] + ["mark new a b"] + LINES[4:]))
        self.assert_line(4, "\n".join(LINES[:4] + [LINES[0]]))
        self.assert_line(1, "\n".join([LINES[0], LINES[0]]))

    def test_the_line_of_a_case(self):
        good = "case cedar mon mid 6 5"
        self.assertEqual(LINES[4], good)
        for words in ("case oak mon mid 6 5", "case cedar wed mid 6 5", "case cedar mon huge 6 5", "case cedar mid mon 6 5",
                      "case cedar tue mon 6 5", "case day mon mid 6 5", "case cedar mon mid 0 0", "case cedar mon mid 5 6",
                      "case cedar mon mid 06 5", "case cedar mon mid 6 05", "case cedar mon mid 6 00", "case cedar mon mid 6",
                      "case cedar mon 6 5", "case cedar mon mid 6 5 4", "case cedar mon mid mid 6 5", "case", "case cedar",
                      "case 6 5", "case cedar mon mid 6 -5", "case cedar mon mid -6 5", "case cedar mon mid +6 5",
                      "case cedar mon mid 6 x", "case cedar mon mid x 5", "case cedar mon mid 6.0 5", "case cedar mon mid 6_0 5",
                      "case  cedar mon mid 6 5", "case cedar  mon mid 6 5", "case cedar mon mid 6  5", "case cedar mon mid 6 5 ",
                      " case cedar mon mid 6 5", "case cedar mon mid 6 ", "case cedar mon mid  5", "cases cedar mon mid 6 5",
                      "Case cedar mon mid 6 5", "case Cedar mon mid 6 5", "case cedar mon mid 6\t5", "", " ", "show",
                      "case cedar mon mid \u0666 5", "case cedar mon mid 6 \u00b2", f"case cedar mon mid {GREAT + 1} 5",
                      "case cedar mon mid " + "1" * 31 + " 5", "case cedar mon mid 6 " + "1" * 31,
                      "case cedar mon mid " + "1" * 5000 + " 5", "case cedar mon mid 6 5\r"):
            self.assert_wrong_in(4, words)

    def test_cases_in_another_order(self):
        for words in ("case ash mon mid 4 1", "case ash mon mid 9 9", "case ash mon big 4 1", "case cedar mon big 6 5"):
            self.assert_wrong_in(4, words)
        self.assert_wrong_in(5, "case cedar mon mid 6 5")
        self.assert_wrong_in(5, "case birch mon mid 1 1")
        self.assert_wrong_in(5, "case ash mon big 1 1")
        self.assert_wrong_in(6, "case ash tue big 1 1")
        self.assert_wrong_in(6, "case birch tue big 1 1")
        self.assertEqual(len(read("\n".join(LINES[:5] + ["case birch mon small 3 3", LINES[6]]))[1][2]), 3)

    def test_cases_of_thirty_figures(self):
        names, book = read(f"houses a b\ncase a {GREAT} 0\ncase b {10 ** 29} {10 ** 29}")
        self.assertEqual(book[2], (((), ((GREAT, 0), (10 ** 29, 10 ** 29))),))
        self.assert_line(1, f"houses a b\ncase a {10 ** 30} 0")
        self.assert_line(2, f"houses a b\ncase a {GREAT} 0\ncase b {GREAT - 1} {GREAT}")

    def test_what_is_shown_of_greater_counts_is_not_read(self):
        self.assert_line(1, show((["a", "b"], []), (2, (), (((), ((10 ** 30, 1), (1, 1))),))))

    def test_empty_lines_and_a_line_feed_at_the_end(self):
        for length in range(1, len(LINES) + 1):
            self.assert_line(length, "\n".join(LINES[:length]) + "\n")
            self.assert_line(length, "\n".join(LINES[:length]) + "\n\n")
            self.assert_line(length, "\n".join(LINES[:length] + [""] + LINES[length:]))
            self.assert_line(length, "\n".join(LINES[:length]) + "\n \n")

    def test_signs_that_split_elsewhere(self):
        self.assert_line(0, TEXT.replace("\n", "\r"))
        self.assert_line(0, TEXT.replace("\n", "\r\n"))
        self.assert_line(0, TEXT.replace("\n", "\x0b"))
        self.assert_line(0, TEXT.replace(" ", "\t"))

    def test_every_case_of_a_small_text_by_its_order(self):
        head = ["houses a b", "mark m x y"]
        keys = list(product("xy", "ab"))
        for first, second in product(keys, repeat=2):
            lines = head + [f"case {house} {kind} 1 1" for kind, house in (first, second)]
            if first < second:
                self.assertEqual(show(*read("\n".join(lines))), "\n".join(lines))
            else:
                self.assert_line(3, "\n".join(lines))


if __name__ == "__main__":
    unittest.main()

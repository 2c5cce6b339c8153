import unittest
from itertools import permutations

from othersum.books import beside, book_of
from othersum.bounds import gap
from othersum.changes import fewest
from othersum.desk import Desk
from othersum.errors import (NoBack, NoBook, NoHouse, NoLead, NoMark, NoName, NoRow, NoShare, NoTable, NoText, SumError,
                             TooGreat)
from othersum.parts import parts_by, table_by, whole_of
from othersum.pushes import push
from othersum.reaches import level
from othersum.texts import read, show
from othersum.trees import turned_knots
from othersum.turners import ranks, turned_by
from othersum.turnings import turning
from samples import GREAT, NO_NUMBERS, selections, some_books

TEXT = """houses ash birch
mark day mon tue
case ash mon 10 9
case birch mon 100 80
case ash tue 100 30
case birch tue 10 2"""
EMPTY = "houses ash birch cedar\nmark day mon tue\nmark size big small"
PLAIN = "houses ash birch\ncase ash 4 3\ncase birch 4 1"


def ratio_text(ratio):
    return f"{ratio[0]}/{ratio[1]}"


def count_text(count):
    return f"{count[1]}/{count[0]}"


class DeskCase(unittest.TestCase):
    def assert_refused(self, error, desk, *rows):
        """Each row is refused just so, and nothing is changed."""
        for row in rows:
            before = desk.say("show")
            with self.assertRaises(SumError, msg=row) as caught:
                desk.say(row)
            self.assertIs(type(caught.exception), error, row)
            self.assertEqual(desk.say("show"), before)

    def assert_said(self, desk, answers):
        for row, due in answers.items():
            told = desk.say(row)
            self.assertIs(type(told), str)
            self.assertEqual(told, due, row)


class Made(DeskCase):
    def test_of_a_text(self):
        for text in (TEXT, EMPTY, PLAIN):
            self.assertEqual(Desk(text).say("show"), text)

    def test_refused_as_texts_are(self):
        for text, line in (("", 0), (None, 0), (7, 0), ("houses a", 0), (TEXT + "\n", 6), (PLAIN + "\ncase birch 1 1", 3),
                           ("houses a b\ncase a 0 0", 1)):
            with self.assertRaises(NoText) as caught:
                Desk(text)
            self.assertEqual(caught.exception.line, line)

    def test_desks_are_their_own(self):
        one, other = Desk(TEXT), Desk(TEXT)
        one.say("case ash mon 1 1")
        self.assertEqual(other.say("show"), TEXT)
        self.assert_refused(NoBack, other, "back")


class Answers(DeskCase):
    def test_of_a_turned_book(self):
        self.assert_said(Desk(TEXT), {
            "show": TEXT, "whole": "39/110 82/110", "ranks": "birch ash", "parts": "- 39/110 82/110",
            "parts day": "mon 9/10 80/100; tue 30/100 2/10", "turn ash birch": "kept birch",
            "turn ash birch day": "turned ash", "turn birch ash day": "turned ash", "push ash birch": "can 0/1",
            "push birch ash": "never", "push birch ash day": "can 43/120", "push ash birch day": "can 0/1",
            "gap ash birch": "-43/110 -43/110 -43/110", "gap ash birch day": "-43/110 -43/110 13/22",
            "gap birch ash day": "-13/22 43/110 43/110", "level ash birch": "can 0/1", "level birch ash": "never",
            "level ash birch day": "can 1/6", "level birch ash day": "can 0/1", "knots ash birch": "none",
            "knots ash birch day": "-:ash", "knots birch ash day": "-:ash", "marks ash birch": "day",
            "marks birch ash": "day", "few birch ash": "43 0"})

    def test_open_and_apart(self):
        desk = Desk("houses a b c\nmark m x y\ncase a x 4 3\ncase b x 4 1\ncase a y 4 1\ncase b y 4 3\ncase c y 4 1")
        self.assert_said(desk, {"turn a b m": "apart", "turn a b": "open", "turn a c m": "open", "turn a c": "kept a",
                                "turn c a": "kept a", "turn b c": "kept b"})

    def test_of_a_book_without_cells(self):
        self.assert_said(Desk(EMPTY), {"show": EMPTY, "whole": "0/0 0/0 0/0", "ranks": "none", "parts": "none",
                                       "parts day": "none", "parts size day": "none", "knots ash birch": "none",
                                       "knots ash birch size day": "none", "marks ash cedar": "none",
                                       "hide ash birch new a b": "none"})
        self.assert_refused(NoLead, Desk(EMPTY), "few ash birch")
        for word in ("turn", "push", "gap", "level"):
            self.assert_refused(NoTable, Desk(EMPTY), f"{word} ash birch", f"{word} ash birch day", f"{word} cedar ash size day")

    def test_ranks(self):
        desk = Desk("houses a b c d e\ncase a 4 2\ncase b 4 3\ncase c 2 1\ncase d 8 6")
        self.assert_said(desk, {"ranks": "b=d a=c", "whole": "2/4 3/4 1/2 6/8 0/0"})

    def test_several_marks(self):
        text = ("houses a b\nmark m x y\nmark n u v\ncase a x u 10 9\ncase b x u 100 80\ncase a x v 100 30\ncase b x v 10 2\n"
                "case a y u 4 1\ncase b y u 4 2\ncase a y v 4 2\ncase b y v 4 3")
        self.assert_said(Desk(text), {
            "parts n m": "u.x 9/10 80/100; u.y 1/4 2/4; v.x 30/100 2/10; v.y 2/4 3/4",
            "parts m": "x 39/110 82/110; y 3/8 5/8", "knots a b m n": "x:a", "knots b a m n": "x:a", "knots a b n m": "none",
            "marks a b": "none", "turn a b m": "kept b", "turn a b n": "kept b", "turn a b m n": "apart"})

    def test_knots_and_marks_of_several(self):
        rows = ["houses a b", "mark m x y", "mark n u v"]
        for kind in "xy":
            rows += [f"case a {kind} u 10 9", f"case b {kind} u 100 80", f"case a {kind} v 100 30", f"case b {kind} v 10 2"]
        self.assert_said(Desk("\n".join(rows)), {"knots a b m n": "x:a y:a", "knots b a m n": "x:a y:a", "knots a b n m": "-:a",
                                                 "marks a b": "n m.n", "marks b a": "n m.n"})
        text = ("houses a b\nmark l p\nmark m x\nmark n u v\ncase a p x u 10 9\ncase b p x u 100 80\ncase a p x v 100 30\n"
                "case b p x v 10 2")
        self.assert_said(Desk(text), {"knots a b l m n": "p.x:a", "knots a b m n": "x:a", "knots a b n l m": "-:a"})

    def test_as_the_stages_tell(self):
        for book in some_books(141, 25, most=4):
            names = (["a", "b", "c", "d"][:book[0]], [(f"m{'pqrst'[mark]}", list("uvwxyz")[:kinds])
                                                       for mark, kinds in enumerate(book[1])])
            desk = Desk(show(names, book))
            marks = [name for name, kinds in names[1]]
            whole = whole_of(book)
            self.assertEqual(desk.say("whole"), " ".join(map(count_text, whole)))
            due = [" ".join("=".join(names[0][house] for house in one) for one in ranks(whole))]
            self.assertEqual(desk.say("ranks"), due[0] or "none")
            for some in selections(len(book[1])):
                words = "".join(" " + marks[mark] for mark in some)
                self.look_at_parts(desk, names, book, some, words)
                for a, b in permutations(range(book[0]), 2):
                    self.look_at_pair(desk, names, book, some, a, b, f" {names[0][a]} {names[0][b]}{words}")

    def kinds_text(self, names, some, values):
        return ".".join(names[1][mark][1][kind] for mark, kind in zip(some, values)) or "-"

    def look_at_parts(self, desk, names, book, some, words):
        due = [" ".join([self.kinds_text(names, some, values), *map(count_text, counts)])
               for values, counts in parts_by(book, some)]
        self.assertEqual(desk.say("parts" + words), "; ".join(due) or "none")

    def look_at_pair(self, desk, names, book, some, a, b, words):
        due = [f"{self.kinds_text(names, some, values)}:{names[0][a if number == 1 else b]}"
               for values, number in turned_knots(book, some, a, b)]
        self.assertEqual(desk.say("knots" + words), " ".join(due) or "none")
        if not some:
            due = [".".join(names[1][mark][0] for mark in one) for one in turned_by(book, a, b)]
            self.assertEqual(desk.say("marks" + words), " ".join(due) or "none")
            whole = whole_of(book)
            self.compare(desk, "few" + words, lambda: "{} {}".format(*fewest(whole[a], whole[b])))
        table = table_by(book, some)
        if table:
            told = turning(table, a, b)
            due = told[0] if told[0] in ("open", "apart") else f"{told[0]} {names[0][a if told[1] == 1 else b]}"
            self.assertEqual(desk.say("turn" + words), due)
            self.compare(desk, "gap" + words, lambda: " ".join(map(ratio_text, gap(table, a, b))))
            self.compare(desk, "push" + words, lambda: self.can_text(push(table, a, b), 3))
            self.compare(desk, "level" + words, lambda: self.can_text(level(table, a, b), 1))

    def can_text(self, told, place):
        return "never" if told[0] == "never" else f"can {ratio_text(told[place])}"

    def compare(self, desk, row, call):
        try:
            due = call()
        except SumError as error:
            self.assert_refused(type(error), desk, row)
            return
        self.assertEqual(desk.say(row), due, row)


class NoRows(DeskCase):
    def test_no_text(self):
        desk = Desk(TEXT)
        for thing in NO_NUMBERS + [0, 1, b"show", ["show"], ("show",)]:
            if not isinstance(thing, str):
                self.assert_refused(NoRow, desk, thing)

    def test_another_first_word(self):
        self.assert_refused(NoRow, Desk(TEXT), "", " ", "shows", "Show", "SHOW", "sho", "houses ash birch", "mark new a b",
                            "ash", "say", "help", "show\n", "\nshow", "case\n", "house ash", "- ash birch", "None")

    def test_too_few_or_too_many_words(self):
        self.assert_refused(NoRow, Desk(TEXT), "show now", "show ", " show", "whole ash", "whole ", "ranks ash", "ranks ",
                            "back 1", "back ", "turn", "turn ash", "push", "push ash", "gap", "gap ash", "level",
                            "level ash", "knots", "knots ash", "marks", "marks ash", "marks ash birch day",
                            "marks ash birch ", "few", "few ash", "few ash birch day", "few ash birch ", "hide", "hide ash",
                            "hide ash birch", "hide ash birch new", "hide ash birch new a",
                            "hide ash birch new a b c d e f g", "case", "case ash", "case ash mon", "case ash mon 3",
                            "case ash 3 2", "case ash mon mon 3 2", "case ash mon 3 2 1", "case ash mon 3 2 ",
                            "turn ", "push ", "case ")

    def test_words_that_are_no_numbers(self):
        for number in ("x", "", "-1", "+1", "01", "00", "1.0", "1_0", "1/1", "1e3", "1" * 31, "\u0661", "\u00b2", "1\n", "mon",
                       "None", "0x1", str(GREAT + 1)):
            self.assert_refused(NoRow, Desk(TEXT), f"case ash mon {number} 0", f"case ash mon 3 {number}",
                                f"case nobody never {number} 0", f"case nobody never 3 {number}")

    def test_ahead_of_no_name_and_the_rest(self):
        self.assert_refused(NoRow, Desk(TEXT), "turn nobody", "few nobody nobody day", "hide nobody nobody day x",
                            "case nobody never 3", "marks nobody nobody nobody", "back nobody", "case ash mon 5 x")


class NoNames(DeskCase):
    def test_houses(self):
        for word in ("turn", "push", "gap", "level", "knots", "marks", "few"):
            for desk in (Desk(TEXT), Desk(EMPTY)):
                self.assert_refused(NoName, desk, f"{word} nobody ash", f"{word} ash nobody", f"{word} nobody nobody",
                                    f"{word} day ash", f"{word} ash mon", f"{word} 0 1", f"{word}  ash", f"{word} ash ",
                                    f"{word} Ash birch", f"{word} ash birch\n")

    def test_marks(self):
        for word in ("turn ash birch", "push ash birch", "gap ash birch", "level ash birch", "knots ash birch", "parts"):
            for desk in (Desk(TEXT), Desk(EMPTY)):
                self.assert_refused(NoName, desk, f"{word} nothing", f"{word} day nothing", f"{word} nothing day",
                                    f"{word} mon", f"{word} 0", f"{word} day ", f"{word}  day", f"{word} ", f"{word} ash",
                                    f"{word} nothing nothing", f"{word} day day nothing")

    def test_of_a_case(self):
        self.assert_refused(NoName, Desk(TEXT), "case nobody mon 3 2", "case ash wed 3 2", "case mon ash 3 2", "case day mon 3 2",
                            "case  mon 3 2", "case ash  3 2", "case ash day 3 2", "case nobody wed 3 2",
                            "case nobody mon 2 3", "case ash wed 2 3", f"case ash wed {GREAT} 3")
        self.assert_refused(NoName, Desk(EMPTY), "case ash big mon 3 2", "case ash mon mon 3 2", "case ash big big 3 2")

    def test_of_hide(self):
        self.assert_refused(NoName, Desk(TEXT), "hide nobody birch new a b", "hide ash nobody new a b", "hide ash birch day a b",
                            "hide ash birch New a b", "hide ash birch new1 a b", "hide ash birch abcdefghi a b",
                            "hide ash birch  a b", "hide ash birch new a a", "hide ash birch new a b a", "hide ash birch new A b",
                            "hide ash birch new a abcdefghi", "hide ash birch new a 1", "hide ash birch new a ",
                            "hide ash birch new  a", "hide ash birch new a b c d e e", "hide ash ash day a b",
                            "hide ash ash new a a", "hide ash birch new a b\n")

    def test_ahead_of_what_the_stages_refuse(self):
        self.assert_refused(NoName, Desk(TEXT), "turn ash ash nothing", "push ash ash nothing", "gap ash ash day day nothing",
                            "level ash ash nothing", "knots ash ash nothing", "parts day day nothing")


class Refused(DeskCase):
    def test_no_house(self):
        for desk in (Desk(TEXT), Desk(EMPTY)):
            self.assert_refused(NoHouse, desk, "turn ash ash", "push ash ash", "gap birch birch", "level ash ash",
                                "knots ash ash", "marks ash ash", "few ash ash", "hide ash ash new a b",
                                "turn ash ash day", "turn ash ash day day", "push ash ash day day", "gap ash ash day day",
                                "level ash ash day day", "knots ash ash day day")

    def test_no_mark(self):
        for desk in (Desk(TEXT), Desk(EMPTY)):
            self.assert_refused(NoMark, desk, "turn ash birch day day", "push ash birch day day", "gap ash birch day day",
                                "level ash birch day day", "knots ash birch day day", "parts day day", "parts day day day")

    def test_no_table_behind_the_others(self):
        for word in ("turn", "push", "gap", "level"):
            self.assert_refused(NoTable, Desk(EMPTY), f"{word} ash birch", f"{word} ash birch day size")
            self.assert_refused(NoName, Desk(EMPTY), f"{word} ash birch none")
            self.assert_refused(NoHouse, Desk(EMPTY), f"{word} ash ash day")
            self.assert_refused(NoMark, Desk(EMPTY), f"{word} ash birch size size")

    def test_no_book(self):
        self.assert_refused(NoBook, Desk(TEXT), "case ash mon 2 3", "case ash mon 0 1", f"case ash mon {10 ** 12 + 1} 0",
                            f"case ash mon {GREAT} 1", f"case ash mon {10 ** 12} {10 ** 12 + 1}", f"case ash mon 1 {GREAT}")

    def test_no_share(self):
        desk = Desk("houses a b c\nmark m x y\ncase a x 4 3\ncase a y 4 1\ncase b y 4 3")
        for row, part, house in (("push a c m", None, 2), ("push c a", None, 2), ("gap c b m", None, 2), ("level b c m", None, 2),
                                 ("gap a b m", 0, 1), ("level b a m", 0, 1)):
            self.assert_refused(NoShare, desk, row)
            with self.assertRaises(NoShare) as caught:
                desk.say(row)
            self.assertEqual((caught.exception.part, caught.exception.house), (part, house))

    def test_no_lead(self):
        self.assert_refused(NoLead, Desk(TEXT), "few ash birch")
        self.assert_refused(NoLead, Desk("houses a b\ncase a 4 2\ncase b 2 1"), "few a b", "few b a")
        self.assert_refused(NoLead, Desk("houses a b\ncase a 4 2"), "few a b", "few b a")

    def test_too_great(self):
        marks = "".join(f"\nmark {name} a" for name in "pqrst")
        for cases in ("", "\ncase ash a a a a a 9 1\ncase birch a a a a a 9 8"):
            desk = Desk("houses ash birch" + marks + cases)
            self.assert_refused(TooGreat, desk, "hide ash birch new a b")
            self.assert_refused(NoHouse, desk, "hide ash ash new a b")
            self.assert_refused(NoName, desk, "hide ash birch p a b")


class Changes(DeskCase):
    def test_a_case(self):
        desk = Desk(TEXT)
        self.assert_said(desk, {"case ash mon 5 5": "ok", "whole": "44/115 82/110", "case birch tue 1 0": "ok",
                                "parts day": "mon 14/15 80/100; tue 30/100 2/11"})
        self.assertEqual(desk.say("show"), TEXT.replace("10 9", "15 14").replace("birch tue 10 2", "birch tue 11 2"))

    def test_the_edges_of_a_case(self):
        desk = Desk(PLAIN)
        self.assert_said(desk, {f"case ash {10 ** 12} {10 ** 12}": "ok", f"case birch {10 ** 12} 0": "ok",
                                "whole": f"{10 ** 12 + 3}/{10 ** 12 + 4} 1/{10 ** 12 + 4}"})

    def test_cases_into_a_book_without_cells(self):
        desk = Desk(EMPTY)
        self.assert_said(desk, {"case cedar tue small 3 1": "ok", "case ash mon big 2 2": "ok"})
        self.assertEqual(desk.say("show"), EMPTY + "\ncase ash mon big 2 2\ncase cedar tue small 3 1")
        self.assert_said(desk, {"back": "ok", "turn ash cedar": "open"})
        self.assertEqual(desk.say("back"), "ok")
        self.assertEqual(desk.say("show"), EMPTY)
        self.assert_refused(NoTable, desk, "turn ash cedar")
        self.assert_refused(NoBack, desk, "back")

    def test_a_case_of_none_tried(self):
        for text in (TEXT, TEXT.replace("\ncase ash mon 10 9", "")):
            desk = Desk(text)
            self.assertEqual(desk.say("case ash mon 0 0"), "ok")
            self.assertEqual(desk.say("show"), text)
            self.assertEqual(desk.say("back"), "ok")
            self.assertEqual(desk.say("show"), text)
            self.assert_refused(NoBack, desk, "back")
        desk = Desk(PLAIN)
        self.assert_said(desk, {"case ash 1 1": "ok", "case birch 0 0": "ok", "back": "ok", "whole": "4/5 1/4"})
        self.assert_said(desk, {"back": "ok", "whole": "3/4 1/4"})

    def test_as_books_are_put_together(self):
        desk = Desk(TEXT)
        names, book = read(TEXT)
        rows = [(house, (kind,), tried, well) for house in (0, 1) for kind in (0, 1)
                for tried in range(4) for well in range(tried + 1)]
        for house, kinds, tried, well in rows:
            row = f"case {names[0][house]} {names[1][0][1][kinds[0]]} {tried} {well}"
            self.assertEqual(desk.say(row), "ok")
            book = beside(book, book_of(2, (2,), [(house, kinds, tried, well)]))
            self.assertEqual(desk.say("show"), show(names, book))
        for row in rows:
            self.assertEqual(desk.say("back"), "ok")
        self.assertEqual(desk.say("show"), TEXT)

    def test_hide(self):
        for words, many in (("a b", 2), ("a b c", 3), ("a b c d e f", 6)):
            desk = Desk(TEXT)
            before = desk.say("parts day")
            self.assertEqual(desk.say(f"hide birch ash new {words}"), "ok")
            self.assertEqual(desk.say("show").split("\n")[2], f"mark new {words}")
            self.assertEqual(desk.say("turn birch ash new"), "turned ash")
            self.assertEqual(desk.say("parts day"), before)
            self.assertEqual(len(desk.say("parts new").split("; ")), many)
            self.assertIn("new", desk.say("marks ash birch").split(" "))
            self.assertEqual(desk.say("knots birch ash new"), "-:ash")
            self.assertEqual(show(*read(desk.say("show"))), desk.say("show"))

    def test_the_new_mark_is_there(self):
        desk = Desk(TEXT)
        desk.say("hide birch ash new a b")
        self.assert_refused(NoRow, desk, "case ash mon 1 1")
        self.assert_refused(NoName, desk, "case ash mon c 1 1", "hide ash birch new a b", "parts newer")
        self.assert_said(desk, {"case ash mon b 1 1": "ok", "parts": "- 40/111 82/110", "back": "ok"})
        self.assert_said(desk, {"back": "ok", "show": TEXT, "case ash mon 1 1": "ok"})

    def test_hidden_till_there_are_five_marks(self):
        desk = Desk(PLAIN.replace("4 3", "90 80").replace("4 1", "90 20"))
        start = desk.say("show")
        for name in "pqrst":
            self.assertEqual(desk.say(f"hide ash birch {name} a b"), "ok")
            self.assertEqual(desk.say(f"turn ash birch {name}"), "turned birch")
            self.assertEqual(desk.say("whole"), "80/90 20/90")
        self.assert_refused(TooGreat, desk, "hide ash birch u a b")
        for name in "pqrst":
            self.assertEqual(desk.say("back"), "ok")
        self.assertEqual(desk.say("show"), start)

    def test_hide_none(self):
        desk = Desk(PLAIN)
        self.assert_said(desk, {"hide ash birch new a b": "none", "show": PLAIN, "hide birch ash new a b": "ok"})
        self.assertEqual(desk.say("back"), "ok")
        self.assertEqual(desk.say("show"), PLAIN)
        self.assert_said(desk, {"hide birch ash new a b c d": "none", "show": PLAIN})
        self.assert_refused(NoBack, desk, "back")

    def test_back_behind_several(self):
        desk = Desk(TEXT)
        shown = [desk.say("show")]
        for row in ("case ash mon 5 5", "hide birch ash new a b", "case ash tue b 7 0", "case ash tue b 0 0",
                    "hide ash birch other x y z", "case birch mon a z 1 1"):
            self.assertEqual(desk.say(row), "ok")
            shown.append(desk.say("show"))
        for row in ("case ash mon 1 1", "hide ash ash u v w", "turn ash ash", "what", "case ash mon a x 1 2"):
            with self.assertRaises(SumError):
                desk.say(row)
        for due in reversed(shown[:-1]):
            self.assertEqual(desk.say("back"), "ok")
            self.assertEqual(desk.say("show"), due)
        self.assert_refused(NoBack, desk, "back")
        self.assert_said(desk, {"case ash mon 5 5": "ok"})
        self.assertEqual(desk.say("show"), shown[1])

    def test_asking_changes_nothing(self):
        desk = Desk(TEXT)
        for row in ("show", "whole", "ranks", "parts day", "turn ash birch day", "push birch ash day", "gap ash birch day",
                    "level ash birch day", "knots ash birch day", "marks ash birch", "few birch ash"):
            first = desk.say(row)
            self.assertEqual(desk.say(row), first)
            self.assertEqual(desk.say("show"), TEXT)
        self.assert_refused(NoBack, desk, "back")

    def test_counts_of_more_than_thirty_figures(self):
        desk = Desk(f"houses a b\ncase a {GREAT} {GREAT}\ncase b {GREAT} 1")
        self.assert_said(desk, {"case a 1 0": "ok", "whole": f"{GREAT}/{GREAT + 1} 1/{GREAT}", "turn a b": "kept a"})
        self.assertEqual(desk.say("show"), f"houses a b\ncase a {GREAT + 1} {GREAT}\ncase b {GREAT} 1")


if __name__ == "__main__":
    unittest.main()

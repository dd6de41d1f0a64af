"""The texts of desks: points [7] and [38], leastimage/desktexts.py."""

import random
import unittest

from leastimage.books import Book
from leastimage.desk import Desk
from leastimage.desktexts import read_desk, write_desk
from leastimage.errors import InvalidText
from leastimage.objects import Archive, Object

import models
from common import all_odd_values, code, raised
from test_desk import LIB, MAIN, desk_with, running

EMPTY = "roots main\nreach 40\npage 16\n"
UNIT = "object o\ncode main 1 export\nhalt\nend\n"
TEXT = "archive l\nobject m\noutside x\ncode a 16 open keep\nback\nend\nend\n" + UNIT + "roots main b\nreach 100\npage 64\n"


class TextTest(unittest.TestCase):
    def test_the_text(self):
        self.assertEqual(write_desk(Desk()), EMPTY)
        unit = Object("m", code("a", [("back",)], alignment=16, scope="open", keep=True), outside=["x"])
        desk = desk_with(("put", Archive("l", unit)), ("put", Object("o", code("main", scope="export"))))
        desk.do(("roots", ["main", "b"]), ("reach", 100), ("page", 64))
        self.assertEqual([write_desk(desk), desk.text()], [TEXT, TEXT])
        self.assertEqual(write_desk(desk=running(("go", 9))), Book(MAIN).text() + EMPTY)

    def test_there_and_back(self):
        desk = running(("put", LIB), ("roots", ["lib", "main", "x", "y"]), ("reach", 4), ("page", 32))
        desk.say("units")
        again = read_desk(write_desk(desk))
        self.assertIsInstance(again, Desk)
        self.assertTrue(again == desk)
        self.assertEqual([again.book, again.roots(), again.reach, again.page], [desk.book, desk.roots(), 4, 32])
        self.assertEqual([again.held_run(), again.history(), again.log(), again.busy], [None, (0, 0), [], False])
        self.assertEqual(read_desk(text=TEXT).text(), TEXT)
        again.do(("reach", 9))
        again.undo()
        self.assertEqual([again.reach, again.history()], [4, (0, 1)])

    def test_bounds(self):
        for line in ("roots a", "roots abcdef b cc d"):
            self.assertEqual(read_desk(EMPTY.replace("roots main", line)).text().split("\n")[0], line)
        for reach in range(4, 101):
            self.assertEqual(read_desk(EMPTY.replace("40", str(reach))).reach, reach)
        for page in (16, 32, 64):
            self.assertEqual(read_desk(EMPTY.replace("16", str(page))).page, page)

    def test_random_books(self):
        for seed in range(60):
            chance = random.Random(seed)
            book = models.random_book(chance, "abcdef", 4)
            deeds = [("put", unit) for unit in book.units()] + [("roots", models.random_roots(chance, book))]
            desk = desk_with(*deeds, ("reach", chance.randint(4, 100)), ("page", chance.choice([16, 32, 64])))
            self.assertEqual(desk.text(), book.text() + desk.text()[len(book.text()) :])
            self.assertTrue(read_desk(desk.text()) == desk)


class RefusedTest(unittest.TestCase):
    def refused(self, text, line, why):
        error = raised(self, InvalidText, read_desk, text)
        self.assertEqual([error.line, error.why], [line, why], text)

    def test_values_that_are_no_strings(self):
        for value in [5, EMPTY.encode(), *all_odd_values()]:
            if not isinstance(value, str):
                self.refused(value, 0, "form")

    def test_missing(self):
        for text in (EMPTY, TEXT):
            lines = text.split("\n")[:-1]
            for many in range(len(lines)):
                told = "".join([line + "\n" for line in lines[:many]])
                self.refused(told, many, "missing")
                if lines[many] != "":
                    self.refused(told + lines[many], many, "form")
        self.refused("", 0, "missing")

    def test_roots(self):
        wrong = ["roots", "roots ", "roots  main", "roots main ", "roots main main", "roots Main", "roots a b c d e", "roots main  b"]
        for line in [*wrong, " roots main", "Roots main", "root main", "rootsmain", "reach 40", "page 16", "", "end", "roots sevenle"]:
            self.refused(EMPTY.replace("roots main", line), 0, "form")
            self.refused(UNIT + EMPTY.replace("roots main", line), 4, "form")

    def test_reach(self):
        wrong = ["reach", "reach ", "reach 3", "reach 101", "reach 040", "reach +40", "reach -4", "reach 40 ", "reach  40", "reach 4 0"]
        for line in [*wrong, "Reach 40", "reach forty", "reach 4000000000", "reach 40.0", "page 16", "roots main", "", " reach 40"]:
            self.refused(EMPTY.replace("reach 40", line), 1, "form")
            self.refused(UNIT + EMPTY.replace("reach 40", line), 5, "form")

    def test_page(self):
        wrong = ["page", "page ", "page 0", "page 15", "page 17", "page 48", "page 128", "page 016", "page 16 ", "page  16", "page 1 6"]
        for line in [*wrong, "Page 16", "page x", "reach 40", "", "page -16"]:
            self.refused(EMPTY.replace("page 16", line), 2, "form")

    def test_what_stands_behind(self):
        for more in ("\n", " ", "x", "end\n", EMPTY, UNIT, "roots main\n"):
            self.refused(EMPTY + more, 3, "form")
        self.refused(UNIT + EMPTY + UNIT, 7, "form")

    def test_units_behind_the_roots(self):
        self.refused("roots main\n" + UNIT + "reach 40\npage 16\n", 1, "form")

    def test_lines_of_the_last_three_within_units(self):
        self.refused("object o\n" + EMPTY, 1, "form")
        self.refused("archive o\n" + EMPTY, 1, "form")
        self.refused("object o\ncode a 1 local\n" + EMPTY, 2, "form")

    def test_errors_of_books(self):
        self.refused("object o\ncode a 1 local\nend\n" + EMPTY, 2, "closing")
        self.refused(UNIT + UNIT + EMPTY, 4, "double")
        self.refused(UNIT + UNIT.replace(" o", " p") + EMPTY, 5, "strong")
        six = "".join([f"object {name}\nend\n" for name in "abcdef"])
        self.assertEqual(len(read_desk(six + EMPTY)), 6)
        self.refused(six + "archive g\nend\n" + EMPTY, 12, "many")
        pieces = "".join([f"data {name} 1 weak\n" for name in "abcdefgh"])
        full = "".join([f"object {name}\n{pieces}end\n" for name in "abc"])
        self.assertEqual(len(read_desk(full + EMPTY).book.ranked()), 24)
        self.refused(full + "object d\ndata a 1 weak\nend\n" + EMPTY, 31, "many")
        self.refused("object o\nword 1\nend\n" + EMPTY, 1, "form")
        self.refused("object o\ndata a 1 open\nend\n" + EMPTY, 1, "form")

    def test_the_first_wrong_line(self):
        self.refused(UNIT + UNIT + "roots\nreach 1\n", 4, "double")
        self.refused("roots main\nreach 1\npage 1\nx", 1, "form")
        self.refused("roots main\nreach 40\npage 1", 2, "form")


if __name__ == "__main__":
    unittest.main()

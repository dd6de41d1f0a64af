"""What desks answer to lines: point [39]."""

import random
import unittest

from leastimage.books import Book
from leastimage.closure import needs_of
from leastimage.desk import Desk
from leastimage.larger import outlook
from leastimage.needs import is_need
from leastimage.objects import Archive, Object

import models
from common import all_odd_values, code, data
from test_desk import KEY, LIB, MAIN, desk_with, running, state

ARCHIVE = Archive("arch", Object("m", code("far", [("out", "r1"), ("back",)], scope="open"), data("d", [("word", 1)], scope="weak")))
BOOK = [("put", Object("o", code("main", [("call", "far"), ("jump", "low")], scope="export"), code("low"), outside=["x"])), ("put", ARCHIVE)]


class LinesTest(unittest.TestCase):
    def says(self, desk, line, answer):
        """Both ways to say a line give the same answer, and both are logged."""
        log = desk.log()
        other = desk.twin()
        self.assertEqual([desk.say(line), other(line)], [answer, answer], line)
        self.assertEqual(desk.log(), [*log, (line, answer)])
        self.assertEqual(other.log(), [*log, (line, answer)])

    def test_units(self):
        self.says(Desk(), "units", "none")
        self.says(desk_with(("put", MAIN)), "units", "main")
        self.says(desk_with(("put", Object("z")), ("put", Archive("a")), ("put", MAIN)), "units", "z a main")

    def test_answer(self):
        desk = desk_with(*BOOK)
        for name, told in (("main", "o main"), ("far", "arch m far"), ("d", "arch m d"), ("low", "none"), ("x", "none")):
            self.says(desk, f"answer {name}", told)
        for word in ("nobody", "Main", "main1", "toolong", "7", "-", "answer", "(main)"):
            self.says(desk, f"answer {word}", "none")

    def test_needs(self):
        self.says(Desk(), "needs", "0")
        desk = desk_with(*BOOK)
        self.says(desk, "needs", str(len(needs_of(desk.book, ["main"]))))
        self.says(desk, "needs", "5")
        desk.do(("roots", ["far", "d"]))
        self.says(desk, "needs", "3")
        desk.do(("roots", ["main"]), ("reach", 4))
        self.says(desk, "needs", str(len(needs_of(desk.book, ["main"], reach=4))))

    def test_needed(self):
        desk = desk_with(*BOOK)
        for need, told in (
            ("live o main", "yes"),
            ("live o low", "yes"),
            ("live arch m far", "yes"),
            ("live arch m d", "no"),
            ("drawn arch m", "yes"),
            ("stub far", "yes"),
            ("stub x", "no"),
            ("long o main 0", "no"),
            ("long o main 1", "no"),
        ):
            self.says(desk, f"needed {need}", told)

    def test_the_reach_counts(self):
        low = code("low", [("room", 30), ("halt",)])
        desk = desk_with(("put", Object("o", code("main", [("jump", "low")], scope="export"), code("mid", keep=True, alignment=16), low)))
        self.says(desk, "needed long o main 0", "no")
        self.says(desk, "outlook long o main 0", "never")
        desk.do(("reach", 10))
        self.says(desk, "needed long o main 0", "yes")
        self.says(desk, "outlook long o main 0", "surely")

    def test_outlook(self):
        desk = desk_with(*BOOK)
        for need, told in (
            ("live o main", "surely"),
            ("live arch m d", "ever"),
            ("stub x", "ever"),
            ("long o main 1", "never"),
        ):
            self.says(desk, f"outlook {need}", told)
        known = [need for need in models.all_needs(desk.book)]
        for need in known:
            words = " ".join([str(item) for item in need if item != ""])
            self.says(desk, f"outlook {words}", outlook(desk.book, ["main"], need))
            self.says(desk, f"needed {words}", "yes" if need in needs_of(desk.book, ["main"]) else "no")

    def test_needs_of_members_with_rows(self):
        unit = Archive("l", Object("m", code("main", [("call", "low"), ("halt",)], scope="export"), code("low")))
        desk = desk_with(("put", unit), ("reach", 4))
        self.says(desk, "needed long l m main 0", "no")
        self.says(desk, "needed long l main 0", "error InvalidNeed")
        self.says(desk, "needed live l m low", "yes")
        self.says(desk, "needed live l low", "error InvalidNeed")

    def test_words_that_are_no_need(self):
        desk = desk_with(*BOOK)
        wrong = ["live", "live o", "live o nobody", "live o m main", "live arch far", "live arch m far far", "drawn", "drawn arch"]
        wrong += ["drawn o main", "drawn arch m m", "stub", "stub nobody", "stub far far", "stub Far", "long", "long o main"]
        wrong += ["long o main 2", "long o main 00", "long o main 01", "long o main +1", "long o main -1", "long o main one"]
        wrong += ["long o main 99999999", "long o low 0", "long 0", "root main", "Live o main", "x", "live o main main", "long o 0 main"]
        for words in wrong:
            self.says(desk, f"needed {words}", "error InvalidNeed")
            self.says(desk, f"outlook {words}", "error InvalidNeed")

    def test_size(self):
        self.says(desk_with(("put", MAIN)), "size", "16")
        self.says(desk_with(("put", MAIN), ("page", 64)), "size", "64")
        self.says(Desk(), "size", "error UnknownRoot")
        unit = Object("o", code("main", [("jump", "x")], scope="export"))
        self.says(desk_with(("put", unit)), "size", "error Unanswered")
        self.says(desk_with(("put", unit), ("put", Object("x", data("x", scope="export")))), "size", "error NotCode")

    def test_without_a_run(self):
        for line in ("out", "end", "calls"):
            self.says(desk_with(("put", MAIN)), line, "error NoRun")
            self.says(running(("drop",)), line, "error NoRun")

    def test_out_end_and_calls(self):
        desk = running()
        self.says(desk, "out", "nothing")
        self.says(desk, "end", "running")
        self.says(desk, "calls", "0")
        desk.do(("go", 3))
        self.says(desk, "calls", "1")
        desk.do(("go", 3))
        self.says(desk, "out", "4")
        self.says(desk, "calls", "0")
        desk.do(("go", 7), ("rewrite", KEY, [("out", "r1"), ("back",)]), ("go", 99))
        self.says(desk, "out", "4 4 0")
        self.says(desk, "end", "done")

    def test_undo_and_redo(self):
        desk = running(("reach", 5))
        self.assertEqual([desk.say("undo"), desk.reach, desk.say("redo"), desk.reach], ["done", 40, "done", 5])
        self.says(desk, "redo", "error NothingLeft")
        self.assertEqual([desk("undo"), desk("undo"), desk("undo")], ["done", "done", "error NothingLeft"])
        self.assertEqual([desk.history(), desk.book], [(0, 2), Book()])
        told = [("undo", "done"), ("redo", "done"), ("redo", "error NothingLeft")]
        told += [("undo", "done"), ("undo", "done"), ("undo", "error NothingLeft")]
        self.assertEqual(desk.log(), told)

    def test_unknown_lines(self):
        desk = running(("go", 3))
        words = ["units", "needs", "size", "out", "end", "calls", "undo", "redo", "answer main", "needed live main main"]
        wrong = ["", " ", "\n", "help", "Units", "answer", "needed", "outlook", "answer main main", "text", "busy", "go 5"]
        wrong += [word + more for word in words for more in (" ", "\n", " x y") if word != "needed live main main" or more != " x y"]
        wrong += [" " + word for word in words] + ["answer  main", "needed  live main main", "needed ", "outlook ", "answer "]
        wrong += ["answer main\n", "answer\nmain", "needed live main\nmain", "undo undo", "units\nunits", "needed\n"]
        wrong += ["outlook live main  main", "needed live main main ", "size 16", "unknown", "done", "error"]
        for line in wrong:
            self.says(desk, line, "unknown")

    def test_values_that_are_no_strings(self):
        desk = running()
        for value in all_odd_values():
            if not isinstance(value, str):
                self.says(desk, value, "unknown")

    def test_lines_change_nothing_but_the_log(self):
        desk = running(("go", 3))
        before = state(desk)
        for line in ("units", "answer main", "needs", "needed live main main", "outlook live main main", "size", "out", "end", "calls", "x"):
            desk(line)
        told = state(desk)
        self.assertEqual(told[:6] + told[7:], before[:6] + before[7:])
        self.assertEqual(len(desk.log()), 10)
        self.assertEqual(desk.say(line="units"), desk(line="units"))

    def test_random_books(self):
        for seed in range(40):
            chance = random.Random(seed)
            book = models.random_book(chance, "abcd", 3)
            roots = models.random_roots(chance, book)
            desk = desk_with(*[("put", unit) for unit in book.units()], ("roots", roots), ("reach", chance.choice([4, 8, 40])))
            needs = needs_of(book, roots, reach=desk.reach)
            self.assertEqual(desk("needs"), str(len(needs)))
            for need in models.all_needs(book):
                words = " ".join([str(item) for item in need if item != ""])
                self.assertEqual(desk("needed " + words), "yes" if need in needs else "no")
                self.assertEqual(desk("outlook " + words), outlook(book, roots, need, reach=desk.reach))
                self.assertTrue(is_need(book, need))
            for name in "abcde":
                told = models.answer(book, name)
                self.assertEqual(desk("answer " + name), " ".join([part for part in told[0] if part]) if told else "none")


if __name__ == "__main__":
    unittest.main()

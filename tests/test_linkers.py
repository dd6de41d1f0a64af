"""Linkers: point [28], leastimage/linkers.py."""

import random
import unittest

from leastimage.apart import taken_apart
from leastimage.books import Book
from leastimage.closure import needs_of
from leastimage.errors import (
    Double,
    DuplicateName,
    InvalidNumber,
    InvalidPage,
    InvalidReach,
    InvalidRoots,
    InvalidUnit,
    NotCode,
    TooMany,
    Unanswered,
    UnknownName,
    UnknownRoot,
)
from leastimage.images import link
from leastimage.larger import is_larger
from leastimage.linkers import Linker
from leastimage.objects import Archive, Object

import models
from common import all_odd_values, book_of, code, data, raised

MAIN = Object("main", code("main", [("call", "lib"), ("halt",)], scope="export"))
LIB = Object("lib", code("lib", [("back",)], scope="export"))
WEAK = Object("weak", code("lib", [("out", "r0"), ("back",)], scope="weak"))
ARCHIVE = Archive("arch", Object("m", code("lib", [("back",)], scope="export"), data("d", keep=True)))


def state(linker):
    """All that a linker tells."""
    told = [linker.book, linker.begun, linker.reach, linker.page, linker.roots(), linker.needs()]
    return told + [len(linker), repr(linker)]


class LinkerTest(unittest.TestCase):
    def check(self, linker):
        """The needs are always those of the present book."""
        self.assertEqual(linker.needs(), needs_of(linker.book, linker.roots(), reach=linker.reach))

    def test_the_beginning(self):
        linker = Linker(Book(MAIN), ["main", "lib"], reach=7, page=32)
        told = [Book(MAIN), 1, 7, 32, ["main", "lib"], [("live", "main", "", "main")], 1, "Linker(1 units, 1 needs)"]
        self.assertEqual(state(linker), told)
        self.assertIs(bool(Linker(Book(), ["main"])), True)
        self.assertEqual(state(Linker(Book(), ("main",)))[2:], [40, 16, ["main"], [], 0, "Linker(0 units, 0 needs)"])

    def test_reach_and_page_stay(self):
        linker = Linker(Book(MAIN, WEAK), ["main"], reach=7, page=32)
        self.assertIs(linker.put(Object("more")), True)
        self.assertEqual([linker.reach, linker.page], [7, 32])
        self.assertIs(linker.put(LIB), False)
        self.assertEqual([linker.reach, linker.page], [7, 32])
        linker.take_off("lib")
        for found in (linker, linker.twin()):
            self.assertEqual([found.reach, found.page], [7, 32])
            self.assertEqual(found.image(), link(Book(MAIN, WEAK, Object("more")), ["main"], reach=7, page=32))

    def test_put_behind_all(self):
        linker = Linker(Book(MAIN), ["main"])
        self.assertIs(linker.put(LIB), True)
        self.assertEqual(linker.book, Book(MAIN, LIB))
        self.assertEqual([linker.begun, len(linker)], [1, 2])
        self.assertEqual(linker.needs(), [("live", "lib", "", "lib"), ("live", "main", "", "main")])
        self.assertEqual(repr(linker), "Linker(2 units, 2 needs)")

    def test_put_at_each_index(self):
        others = [Object(name) for name in "abc"]
        for at in range(4):
            linker = Linker(Book(*others), ["main"])
            self.assertIs(linker.put(MAIN, at), True)
            self.assertEqual(linker.book, Book(*others[:at], MAIN, *others[at:]))
            self.check(linker)
        linker = Linker(Book(*others), ["main"])
        self.assertIs(linker.put(unit=MAIN, at=None), True)
        self.assertEqual([unit.name for unit in linker.book], ["a", "b", "c", "main"])

    def test_a_book_that_answers_otherwise_is_begun_anew(self):
        linker = Linker(Book(MAIN, WEAK), ["main"])
        self.assertIs(linker.put(LIB), False)
        self.assertEqual(linker.begun, 2)
        self.assertNotIn(("live", "weak", "", "lib"), linker.needs())
        self.check(linker)
        self.assertIs(linker.put(Object("other")), True)
        self.assertEqual(linker.begun, 2)

    def test_a_weak_piece_ahead_of_a_weak_one(self):
        other = Object("other", code("lib", scope="weak"))
        for at, told in ((0, False), (1, False), (2, True), (None, True)):
            linker = Linker(Book(MAIN, WEAK), ["main"])
            self.assertIs(linker.put(other, at), told, at)
            self.assertEqual(linker.begun, 1 if told else 2)
            self.check(linker)

    def test_members_and_objects(self):
        linker = Linker(Book(MAIN, ARCHIVE), ["main"])
        self.assertIn(("drawn", "arch", "m"), linker.needs())
        self.assertIn(("live", "arch", "m", "d"), linker.needs())
        self.assertIs(linker.put(LIB), False)
        self.assertNotIn(("drawn", "arch", "m"), linker.needs())
        self.check(linker)
        linker = Linker(Book(MAIN, LIB), ["main"])
        self.assertIs(linker.put(ARCHIVE, 0), True)
        self.check(linker)

    def test_units_that_are_exchanged(self):
        linker = Linker(Book(MAIN, LIB), ["main"])
        linker.take_off("lib")
        self.assertEqual([linker.begun, linker.book, linker.needs()], [2, Book(MAIN), [("live", "main", "", "main")]])
        self.assertIs(linker.put(Object("lib", code("lib", [("halt",)], scope="export"))), True)
        self.assertEqual(linker.begun, 2)
        self.check(linker)
        linker.take_off(name="main")
        self.assertEqual([linker.begun, linker.needs()], [3, []])
        self.assertIs(linker.put(MAIN, 0), True)
        self.assertEqual(linker.image(), link(linker.book, ["main"]))

    def test_a_unit_that_means_nothing_is_taken_off(self):
        linker = Linker(Book(MAIN, LIB, Object("none")), ["main"])
        linker.take_off("none")
        self.assertEqual([linker.begun, linker.book], [2, Book(MAIN, LIB)])
        self.check(linker)

    def test_image(self):
        linker = Linker(Book(MAIN), ["main"], reach=5, page=64)
        self.assertEqual(raised(self, Unanswered, linker.image).spot, ("main", "", "main", 0))
        linker.put(LIB)
        self.assertEqual(linker.image(), link(Book(MAIN, LIB), ["main"], reach=5, page=64))
        self.assertEqual(linker.image().cells(64), link(Book(MAIN, LIB), ["main"], reach=5, page=64).cells(64))
        linker.take_off("lib")
        linker.put(Object("lib", data("lib", scope="weak")))
        self.assertEqual(raised(self, NotCode, linker.image).name, "lib")
        linker.take_off("main")
        self.assertEqual(raised(self, UnknownRoot, linker.image).name, "main")

    def test_twins_share_nothing(self):
        linker = Linker(Book(MAIN), ["main"])
        linker.take_off("main")
        linker.put(MAIN)
        twin = linker.twin()
        before = state(linker)
        self.assertEqual(state(twin), before)
        twin.put(LIB)
        twin.take_off("main")
        self.assertEqual(state(linker), before)
        after = state(twin)
        linker.put(WEAK, 0)
        linker.take_off("weak")
        self.assertEqual(state(twin), after)
        self.assertEqual([linker.begun, twin.begun], [3, 3])

    def test_lists_are_copied_and_new(self):
        roots = ["main"]
        linker = Linker(Book(MAIN), roots)
        roots.append("lib")
        linker.roots().append("x")
        linker.needs().clear()
        self.assertEqual([linker.roots(), len(linker.needs())], [["main"], 1])

    def test_what_returns_none(self):
        self.assertIsNone(Linker(Book(MAIN), ["main"]).take_off("main"))

    def test_random_units(self):
        counts = {True: 0, False: 0}
        for seed in range(120):
            chance = random.Random(seed)
            book = models.random_book(chance, "abcdef", 3)
            linker = Linker(Book(), models.random_roots(chance, book), reach=chance.choice([4, 8, 40]))
            begun = 1
            for unit in chance.sample(book.units(), len(book)) * 2:
                if unit.name in linker.book:
                    linker.take_off(unit.name)
                    begun += 1
                else:
                    old = linker.book
                    told = linker.put(unit, chance.choice([None, *range(len(old) + 1)]))
                    self.assertIs(told, is_larger(linker.book, old))
                    self.assertIs(told, models.is_larger(linker.book, old))
                    counts[told] += 1
                    begun += 0 if told else 1
                self.check(linker)
                self.assertEqual(linker.begun, begun)
        self.assertGreater(min(counts.values()), 20)


class ErrorsTest(unittest.TestCase):
    def unchanged(self, linker, error, call, *values):
        """The error of a call that changes nothing."""
        before = state(linker)
        found = raised(self, error, call, *values)
        self.assertEqual(state(linker), before)
        return found

    def test_the_constructor(self):
        odd = [value for value in all_odd_values() if value != ["halt"]]
        for roots in [*odd, [], "main", ["a", "a"], list("abcde"), ["Main"]]:
            raised(self, InvalidRoots, Linker, Book(), roots, reach=0, page=0)
        for reach in [3, 101, "40", *all_odd_values()]:
            self.assertIs(raised(self, InvalidReach, Linker, Book(), ["main"], reach=reach, page=0).value, reach)
        for page in [0, 15, 48, "16", *all_odd_values()]:
            self.assertIs(raised(self, InvalidPage, Linker, Book(), ["main"], page=page).value, page)

    def test_the_index_comes_first(self):
        linker = Linker(Book(MAIN, LIB), ["main"])
        for at in [-1, 3, 10**8, "0", True, False, (), [0], MAIN]:
            self.assertIs(self.unchanged(linker, InvalidNumber, linker.put, None, at).value, at)

    def test_no_units(self):
        linker = Linker(Book(MAIN, LIB), ["main"])
        for value in all_odd_values():
            self.assertEqual(self.unchanged(linker, InvalidUnit, linker.put, value).at, 2)
            self.assertEqual(self.unchanged(linker, InvalidUnit, linker.put, value, 0).at, 0)

    def test_names_and_strong_pieces(self):
        linker = Linker(Book(MAIN, LIB), ["main"])
        self.assertEqual(self.unchanged(linker, DuplicateName, linker.put, Object("lib")).name, "lib")
        double = Object("double", code("lib", scope="open"))
        error = self.unchanged(linker, Double, linker.put, double)
        self.assertEqual([error.name, error.first, error.second], ["lib", "lib", "double"])
        error = self.unchanged(linker, Double, linker.put, double, 0)
        self.assertEqual([error.name, error.first, error.second], ["lib", "double", "lib"])

    def test_the_sixth_unit_and_one_more(self):
        linker = Linker(Book(*[Object(name) for name in "abcde"]), ["main"])
        self.assertIs(linker.put(MAIN), True)
        self.assertEqual(self.unchanged(linker, TooMany, linker.put, LIB).most, 6)
        self.assertEqual(self.unchanged(linker, TooMany, linker.put, Object("a"), 0).most, 6)
        linker.take_off("a")
        self.assertIs(linker.put(LIB), True)

    def test_24_pieces_and_one_more(self):
        full = [Object(name, *[code(name + other) for other in "abcdefgh"]) for name in "abc"]
        linker = Linker(Book(*full[:2]), ["main"])
        self.assertIs(linker.put(full[2]), True)
        self.assertEqual(self.unchanged(linker, TooMany, linker.put, MAIN).most, 24)
        self.assertIs(linker.put(Object("empty")), True)

    def test_take_off(self):
        linker = Linker(Book(MAIN, LIB), ["main"])
        for name in ["x", "Main", 3, *all_odd_values()]:
            self.assertIs(self.unchanged(linker, UnknownName, linker.take_off, name).name, name)

    def test_wide_books(self):
        archive = Archive("l", *[Object("m" + name, code(name, [("back",)], scope="weak", keep=True)) for name in "abcd"])
        more = Archive("k", *[Object("m" + name, code(name, [("back",)], scope="weak", keep=True)) for name in "efgh"])
        calls = [("call", name) for name in "abcdefgh"] + [("halt",)]
        apart = taken_apart(link(Book(Object("o", code("main", calls, scope="export")), archive, more), ["main"]))
        linker = Linker(apart, ["main"])
        self.assertEqual([len(linker), linker.begun], [9, 1])
        self.assertEqual(self.unchanged(linker, TooMany, linker.put, Object("new")).most, 6)
        linker.take_off(apart.units()[0].name)
        self.assertEqual([len(linker), linker.begun], [8, 2])


if __name__ == "__main__":
    unittest.main()

"""Larger books, outlooks and witnesses: points [19] to [21], leastimage/larger.py."""

import random
import unittest

from leastimage.books import Book
from leastimage.chains import is_chain
from leastimage.closure import needs_of
from leastimage.errors import InvalidNeed, InvalidReach, InvalidRoots
from leastimage.larger import general_book, is_larger, outlook, witness
from leastimage.objects import Archive, Object
from leastimage.pieces import Piece

import models
from common import all_odd_values, book_of, code, data, raised

MAIN = Object("main", code("main", [("call", "f"), ("jump", "gone")], scope="export"), data("d", scope="export"))
LIB = Archive("lib", Object("m", code("f", scope="export"), code("g", scope="weak")))
SIDE = Object("side", code("g", scope="weak"), code("h"), outside=["far"])
BOOK = Book(MAIN, LIB, SIDE)
NEW = Object("new", code("new"))
EXAMPLE = book_of(
    "object main; code main 1 export; call twice; halt; code twice 1 local; back; code spare 1 export; back; end"
)


class IsLargerTest(unittest.TestCase):
    def check(self, big, told, book=BOOK):
        self.assertIs(is_larger(big, book), told)
        self.assertIs(models.is_larger(big, book), told)

    def test_equal_books(self):
        self.check(BOOK, True)
        self.check(Book(MAIN, LIB, SIDE), True)
        self.check(Book(), True, Book())
        self.assertIs(is_larger(big=BOOK, book=BOOK), True)

    def test_units_put_in_at_each_place(self):
        for at in range(4):
            self.check(BOOK.with_unit(NEW, at), True)
            for to in range(5):
                self.check(BOOK.with_unit(NEW, at).with_unit(Archive("void"), to), True)
        self.check(BOOK, True, Book())

    def test_units_exchanged(self):
        self.check(Book(LIB, MAIN, SIDE), False)
        self.check(Book(MAIN, SIDE, LIB), False)
        self.check(Book(NEW, SIDE, LIB, MAIN), False)

    def test_units_left_out(self):
        for name in ("main", "lib", "side"):
            self.check(BOOK.without(name), False)
            self.check(BOOK.without(name) + NEW, False)
            # Without lib another piece answers g.
            self.check(BOOK, name != "lib", BOOK.without(name))
        self.check(Book(), False)

    def test_units_bent(self):
        for unit in (
            Object("main", *MAIN.pieces(), outside=["f"]),
            Object("main", *MAIN.pieces()[::-1]),
            Object("main", *MAIN.pieces(), code("more")),
            Object("mains", *MAIN.pieces()),
        ):
            self.check(Book(unit, LIB, SIDE), False)
        self.check(Book(Archive("main"), LIB, SIDE), False)

    def test_answers_turned_to_other_pieces(self):
        strong = Object("new", code("f", scope="export"))
        for at in range(4):
            self.check(BOOK.with_unit(strong, at), False)
        member = Archive("new", Object("m", code("f", scope="open")))
        self.assertEqual([is_larger(BOOK.with_unit(member, at), BOOK) for at in range(4)], [False, False, True, True])
        weak = Object("new", code("g", scope="weak"))
        self.assertEqual([is_larger(BOOK.with_unit(weak, at), BOOK) for at in range(4)], [False, False, True, True])
        self.check(BOOK + Object("new", code("g", scope="export")), False)
        self.check(BOOK + Archive("new", Object("m", code("g", scope="export"))), False)
        self.check(BOOK + Archive("new", Object("m", code("main", scope="export"))), True)

    def test_new_answers(self):
        new = Object("new", code("gone", scope="open"), code("far", scope="export"), code("h", scope="weak"))
        self.check(BOOK.with_unit(new, 1), True)

    def test_many_books(self):
        found = {True: 0, False: 0}
        for at in range(300):
            chance = random.Random(at)
            names = list("abcdef"[: chance.randint(2, 6)])
            book = models.random_book(chance, names, 3)
            big = models.random_larger(chance, book, names)
            if chance.random() < 0.3 and len(big) > 0:
                big = big.without(chance.choice(big.units()).name)
            told = models.is_larger(big, book)
            found[told] += 1
            self.check(big, told, book)
        self.assertGreater(min(found.values()), 30)


class GeneralBookTest(unittest.TestCase):
    """What point [20] tells, without what it leaves free."""

    def check(self, book, reach=40):
        general = general_book(book, reach=reach)
        self.assertTrue(models.is_larger(general, book))
        units = general.units()
        many = len(book.units())
        self.assertEqual(len(units), 2 * many + 3)
        self.assertEqual(units[1 : 2 * many : 2], book.units())
        for filler in units[0 : 2 * many + 1 : 2]:
            rows = [("room", reach + 1), ("halt",)]
            name = filler.pieces()[0].name
            self.assertEqual(filler, Object(filler.name, Piece(name, "code", rows, keep=True)))
            self.assertNotIn(name, book.known())
        self.check_answering(book, units[-2])
        self.check_asking(book, units[-1])
        return general

    def check_naming(self, book, pieces, names):
        rows = []
        for piece in pieces:
            self.assertEqual((piece.part, piece.scope, piece.keep), ("code", "local", True))
            self.assertNotIn(piece.name, book.known())
            self.assertIn(piece.rows()[-1], [("halt",), ("back",)])
            rows += piece.rows()[:-1]
        self.assertEqual(sorted(rows), [("name", "r0", name) for name in sorted(names)])

    def check_answering(self, book, unit):
        told = models.references(book)
        names = sorted({target[1] for _, _, _, _, target, _ in told if target[0] == "none"})
        kept = [piece for piece in unit.pieces() if piece.scope == "open"]
        self.assertEqual(sorted(piece.name for piece in kept), names)
        for piece in kept:
            self.assertEqual(piece, Piece(piece.name, "code", [("halt",)], scope="open", keep=True))
        answers = {name: models.answer(book, name) for name in models.known(book)}
        data_names = [name for name, found in answers.items() if found and found[1].part == "data"]
        self.check_naming(book, [piece for piece in unit.pieces() if piece.scope != "open"], data_names)
        self.assertEqual(unit.outside(), [])

    def check_asking(self, book, unit):
        self.assertEqual(sorted(unit.outside()), models.known(book))
        self.check_naming(book, unit.pieces(), models.known(book))

    def test_books(self):
        for book in (BOOK, EXAMPLE, Book(MAIN), Book(LIB, SIDE), Book(Archive("a"))):
            for reach in (4, 40, 100):
                self.check(book, reach)
        self.assertEqual(general_book(BOOK), general_book(book=BOOK, reach=40))

    def test_the_empty_book(self):
        general = self.check(Book())
        self.assertEqual([len(unit) for unit in general], [1, 0, 0])

    def test_names_that_are_taken(self):
        # The shortest names are those of units and pieces, and are known.
        letters = "abcdefgh"
        book = book_of(*[f"object {name}; code {name} 1 export; jump {name}; end" for name in "abcdef"])
        self.check(book)
        pieces = [data(name, [("address", "i"), ("address", "j"), ("address", "aa")]) for name in letters]
        self.check(Book(Object("a", *pieces), Object("b", *[code(name, scope="export") for name in letters])))

    def test_more_than_a_book_may_have(self):
        names = [one + other for one in "abcdefgh" for other in "klmnopqr"]
        units = []
        for at, title in enumerate("uvw"):
            rows = [[("call", name) for name in names[k * 8 : k * 8 + 8]] + [("halt",)] for k in range(8)]
            units.append(Object(title, *[Piece(title + "abcdefgh"[k], "code", rows[k]) for k in range(8)]))
        general = self.check(Book(*units))
        self.assertEqual(len([piece for piece in general.units()[-2].pieces() if piece.scope == "open"]), 64)
        pieces = [data(name, scope="export") for name in names[:8]]
        more = [data(name, scope="export") for name in names[8:16]]
        self.check(Book(Object("u", *pieces), Object("v", *more)))

    def test_many_books(self):
        for at in range(100):
            chance = random.Random(at)
            self.check(models.random_book(chance, "abcdefgh"[: chance.randint(2, 8)], 4), chance.choice([4, 15, 100]))

    def test_wrong_reach(self):
        for value in all_odd_values() + [3, 101, "40", [40]]:
            self.assertIs(raised(self, InvalidReach, general_book, BOOK, reach=value).value, value)


class OutlookTest(unittest.TestCase):
    def check(self, book, roots, need, told, reach=40):
        self.assertEqual(outlook(book, roots, need, reach=reach), told)
        found = witness(book, roots, need, reach=reach)
        if told == "never":
            self.assertIsNone(found)
            return
        self.assertIsInstance(found, tuple)
        big, chain = found
        self.assertTrue(models.is_larger(big, book))
        self.assertIn(need, needs_of(big, roots, reach=reach))
        self.assertIsInstance(chain, list)
        self.assertTrue(is_chain(big, roots, chain, reach=reach))
        self.assertEqual(chain[-1][0], need)

    def test_the_example(self):
        needs = [("live", "main", "", "twice"), ("live", "main", "", "spare"), ("long", "main", "", "main", 0)]
        for need, told in zip(needs, ("surely", "ever", "never")):
            self.check(EXAMPLE, ["main"], need, told)
        self.assertEqual(outlook(book=EXAMPLE, roots=["main"], need=needs[0]), "surely")
        self.assertEqual(witness(book=EXAMPLE, roots=["main"], need=needs[2]), None)

    def test_live_needs(self):
        book = book_of(
            "object o; code a 1 export; call b; halt; code b 1 local; back; code c 1 local; jump d; code d 1 local; halt;",
            "code e 1 export; call f; halt; code f 1 local; halt; code k 1 local keep; halt; end",
        )
        for name, told in zip("abcdefk", ["surely", "surely", "never", "never", "ever", "ever", "surely"]):
            self.check(book, ["a"], ("live", "o", "", name), told)
        self.check(book, ["x"], ("live", "o", "", "a"), "ever")
        self.check(book, ["x"], ("live", "o", "", "k"), "surely")

    def test_members(self):
        book = book_of(
            "archive l; object m; code a 1 export; halt; code k 1 local keep; halt; end;",
            "object n; code a 1 export; halt; code b 1 local; halt; end; object p; end; end",
        )
        for need, told, answered in (
            (("live", "l", "m", "a"), "ever", "surely"),
            (("live", "l", "m", "k"), "ever", "surely"),
            (("live", "l", "n", "a"), "never", "never"),
            (("live", "l", "n", "b"), "never", "never"),
            (("drawn", "l", "m"), "ever", "surely"),
            (("drawn", "l", "n"), "never", "never"),
            (("drawn", "l", "p"), "never", "never"),
        ):
            self.check(book, ["x"], need, told)
            self.check(book, ["a"], need, answered)

    def test_weak_pieces_behind_others(self):
        book = book_of("object o; code a 1 weak; halt; end; object p; code a 1 weak; halt; end")
        self.check(book, ["x"], ("live", "o", "", "a"), "ever")
        self.check(book, ["x"], ("live", "p", "", "a"), "never")

    def test_data(self):
        book = book_of("object o; data a 1 export; address b; data b 1 local; data c 1 local; end")
        for name, told in zip("abc", ("ever", "ever", "never")):
            self.check(book, ["x"], ("live", "o", "", name), told)
        self.check(book, ["a"], ("live", "o", "", "b"), "surely")

    def test_stubs(self):
        book = book_of("object o; outside x; code a 1 export; call x; jump b; code b 1 local; halt; end")
        for name, told in zip("abx", ("ever", "ever", "surely")):
            self.check(book, ["a"], ("stub", name), told)

    def test_long_forms(self):
        book = book_of(
            "object o; code a 1 export; call b; call a; name r0 d; jump d; code b 1 local; call x; back; data d 1 local; end;",
            "object p; code c 1 export; call a; jump x; code e 1 local; jump e; end",
        )
        for name, row, told in (
            ("a", 0, "never"),
            ("a", 1, "never"),
            ("a", 2, "surely"),
            ("a", 3, "never"),
            ("b", 0, "ever"),
        ):
            self.check(book, ["a"], ("long", "o", "", name, row), told)
        # Between two objects there may be others; x may be in an object that is open.
        self.check(book, ["a"], ("long", "p", "", "c", 0), "ever")
        self.check(book, ["a"], ("long", "p", "", "c", 1), "ever")
        self.check(book, ["a"], ("long", "p", "", "e", 0), "never")
        self.check(book, ["a"], ("long", "o", "", "a", 0), "surely", reach=4)

    def test_what_larger_books_need(self):
        reached = 0
        for at in range(120):
            chance = random.Random(at)
            names = list("abcdefgh"[: chance.randint(2, 8)])
            book = models.random_book(chance, names, 3)
            roots = models.random_roots(chance, book)
            reach = chance.choice([4, 6, 15, 40])
            least = needs_of(book, roots, reach=reach)
            told = {need: outlook(book, roots, need, reach=reach) for need in models.all_needs(book)}
            self.assertEqual([need for need in told if told[need] == "surely"], least)
            for need in chance.sample(list(told), min(3, len(told))):
                self.check(book, roots, need, told[need], reach)
            for _ in range(5):
                big = models.random_larger(chance, book, names + ["q"])
                if models.is_larger(big, book):
                    found = needs_of(big, roots, reach=reach)
                    self.assertTrue(set(least) <= set(found))
                    for need in [need for need in found if need in told and need not in least]:
                        reached += 1
                        self.assertEqual(told[need], "ever")
        self.assertGreater(reached, 100)

    def test_errors_in_their_order(self):
        need = ("live", "main", "", "main")
        for call in (outlook, witness):
            for roots in ([], ["a", "a"], "a", None, ["A"], [None], True):
                raised(self, InvalidRoots, call, BOOK, roots, None, reach=3)
                raised(self, InvalidRoots, call, BOOK, roots, need)
            for reach in (3, 101, None, True, "40", [40]):
                self.assertIs(raised(self, InvalidReach, call, BOOK, ["main"], None, reach=reach).value, reach)
            others = [list(need), [need], (need,), need[1:], ("live", "main", "", "q"), ("long", "main", "", "main", False)]
            for value in all_odd_values() + others + [("stub", "q"), ("drawn", "main", ""), ("live", [], "", "main")]:
                self.assertEqual(raised(self, InvalidNeed, call, BOOK, ["main"], value).at, 0)


if __name__ == "__main__":
    unittest.main()

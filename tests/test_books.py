"""Books, their units and their texts: point [6], leastimage/books.py."""

import unittest

from leastimage.books import Book, wide_book
from leastimage.errors import (
    Double,
    DuplicateName,
    InvalidNumber,
    InvalidText,
    InvalidUnit,
    TooMany,
    UnknownName,
    UnknownPiece,
)
from leastimage.objects import Archive, Object, wide_object

from common import ODD_VALUES, all_odd_values, book_of, code, data, raised

LETTERS = "abcdefghijklmnopqrstuvwxyz"

MAIN = Object("main", code("main", scope="export"), data("list"), outside=["print"])
LIB = Archive("lib", Object("two", code("print", scope="export"), code("x")), Object("one", code("x")))
SPARE = Object("spare", code("x", scope="weak"))
BOOK = Book(MAIN, LIB, SPARE)
NO_UNITS = ["main", code("main"), [MAIN], (MAIN,), Book()]


def full(name, many=8):
    """An object with so many pieces, whose names are single letters."""
    return Object(name, *[code(letter) for letter in LETTERS[:many]])


def objects_called(names):
    return [Object(name) for name in names]


def strong(name, *names):
    return Object(name, *[code(piece, scope="export") for piece in names])


class RightBookTest(unittest.TestCase):
    def test_units(self):
        self.assertEqual(BOOK.units(), [MAIN, LIB, SPARE])
        self.assertEqual(Book().units(), [])
        self.assertEqual(list(BOOK), [MAIN, LIB, SPARE])
        self.assertEqual([unit.name for unit in BOOK], ["main", "lib", "spare"])
        self.assertEqual(list(Book()), [])

    def test_two_walks_side_by_side(self):
        one, other = iter(BOOK), iter(BOOK)
        self.assertEqual([next(one), next(one), next(other), next(one)], [MAIN, LIB, MAIN, SPARE])

    def test_unit(self):
        self.assertIs(BOOK.unit("main"), MAIN)
        self.assertIs(BOOK.unit(name="lib"), LIB)
        for value in all_odd_values() + ["two", "x", "mai", ["main"], ("main",), MAIN]:
            self.assertIs(raised(self, UnknownName, BOOK.unit, value).name, value)

    def test_bounds(self):
        self.assertEqual(len(Book(*objects_called("abcdef"))), 6)
        self.assertEqual(len(Book(full("a"), full("b"), full("c"), Object("d")).ranked()), 24)
        wide = Archive("a", full("a"), full("b"), full("c"))
        self.assertEqual(len(Book(wide, Archive("b")).ranked()), 24)

    def test_names_that_may_stand_twice(self):
        member = Object("a", code("a", scope="export"))
        book = Book(Object("a", code("a", scope="export")), Archive("b", member), Archive("c", member))
        self.assertEqual(book.ranked(), [("a", "", "a"), ("b", "a", "a"), ("c", "a", "a")])
        weak = [Object(name, code("x", scope="weak")) for name in "abc"]
        self.assertEqual(len(Book(*weak, strong("d", "x"))), 4)

    def test_ranked(self):
        keys = [
            ("main", "", "main"),
            ("main", "", "list"),
            ("lib", "two", "print"),
            ("lib", "two", "x"),
            ("lib", "one", "x"),
            ("spare", "", "x"),
        ]
        self.assertEqual(BOOK.ranked(), keys)
        self.assertEqual(Book().ranked(), [])
        self.assertEqual(Book(LIB, SPARE).ranked(), keys[2:])

    def test_piece_and_owner(self):
        self.assertIs(BOOK.piece(("main", "", "list")), MAIN.pieces()[1])
        self.assertIs(BOOK.piece(key=("lib", "one", "x")), LIB.member("one").pieces()[0])
        self.assertIs(BOOK.owner(("main", "", "list")), MAIN)
        self.assertIs(BOOK.owner(key=("lib", "one", "x")), LIB.member("one"))

    def test_unknown_pieces(self):
        others = [
            ["main", "", "main"],
            ("main", "", "x"),
            ("main", "main", "main"),
            ("lib", "", "x"),
            ("lib", "one", "print"),
            ("lib", "one"),
            ("main", "", "main", 0),
            ("live", "main", "", "main"),
            ("main", None, "main"),
            ("main", [], "main"),
            ("main", "", MAIN),
            ("", "", ""),
        ]
        for value in all_odd_values() + others:
            self.assertIs(raised(self, UnknownPiece, BOOK.piece, value).key, value)
            self.assertIs(raised(self, UnknownPiece, BOOK.owner, value).key, value)
            self.assertIs(raised(self, UnknownPiece, BOOK.references, value).key, value)

    def test_drawable(self):
        self.assertEqual(BOOK.drawable(), [("lib", "two"), ("lib", "one")])
        book = Book(Archive("b", Object("z"), Object("a")), Object("c"), Archive("a", Object("z")))
        self.assertEqual(book.drawable(), [("b", "z"), ("b", "a"), ("a", "z")])
        self.assertEqual(Book(MAIN).drawable(), [])

    def test_returned_lists_are_new(self):
        for told in (BOOK.units, BOOK.ranked, BOOK.drawable, BOOK.known):
            kept = told()
            many = len(kept)
            self.assertIsInstance(kept, list)
            kept.clear()
            self.assertEqual(len(told()), many)
            self.assertIsNot(told(), told())

    def test_lists_that_are_changed_behind_the_call(self):
        units = [MAIN, LIB]
        made = wide_book(units)
        units.append(SPARE)
        units[0] = SPARE
        self.assertEqual(made.units(), [MAIN, LIB])
        self.assertEqual(made.ranked(), Book(MAIN, LIB).ranked())

    def test_contains(self):
        for name in ("main", "lib", "spare"):
            self.assertIs(name in BOOK, True)
        for value in all_odd_values() + ["two", "x", "print", MAIN, ["main"], ("main",), BOOK]:
            self.assertIs(value in BOOK, False)
            self.assertIs(value in Book(), False)

    def test_equal(self):
        same = Book(Object("main", *MAIN.pieces(), outside=("print",)), LIB, SPARE)
        self.assertTrue(BOOK == same)
        self.assertFalse(BOOK != same)
        for other in (Book(), Book(MAIN, LIB), Book(LIB, MAIN, SPARE), Book(Object("main"), LIB, SPARE)):
            self.assertFalse(BOOK == other)
            self.assertTrue(BOOK != other)
        self.assertFalse(Book(Object("a")) == Book(Archive("a")))
        for value in all_odd_values() + [MAIN, [MAIN, LIB, SPARE], BOOK.text()]:
            self.assertFalse(BOOK == value)
            self.assertFalse(value == BOOK)

    def test_length_truth_and_repr(self):
        self.assertEqual([len(BOOK), len(Book())], [3, 0])
        self.assertIs(bool(BOOK), True)
        self.assertIs(bool(Book()), True)
        self.assertEqual(repr(BOOK), "Book(3 units)")
        self.assertEqual(repr(Book(MAIN)), "Book(1 units)")
        self.assertEqual(repr(Book()), "Book(0 units)")


class WrongBookTest(unittest.TestCase):
    def test_first_value_that_is_no_unit(self):
        for value in ODD_VALUES + NO_UNITS:
            self.assertEqual(raised(self, InvalidUnit, Book, value).at, 0)
            self.assertEqual(raised(self, InvalidUnit, Book, MAIN, value, 7, MAIN).at, 1)

    def test_too_many_units(self):
        self.assertEqual(raised(self, TooMany, Book, *objects_called("abcdefg")).most, 6)

    def test_first_duplicate_unit(self):
        error = raised(self, DuplicateName, Book, *objects_called("abcba"))
        self.assertEqual(error.name, "b")
        self.assertEqual(raised(self, DuplicateName, Book, Object("a"), Archive("a")).name, "a")

    def test_too_many_pieces(self):
        units = [full("a"), full("b"), full("c")]
        self.assertEqual(raised(self, TooMany, Book, *units, full("d", 1)).most, 24)
        archive = Archive("d", Object("a"), full("b", 1))
        self.assertEqual(raised(self, TooMany, Book, *units, archive).most, 24)

    def test_first_strong_piece_that_stands_twice(self):
        units = [strong("a", "x", "y"), Archive("b", strong("b", "y")), strong("c", "z", "y", "x")]
        error = raised(self, Double, Book, *units)
        self.assertEqual((error.name, error.first, error.second), ("y", "a", "c"))

    def test_open_and_data_pieces_are_strong_too(self):
        pieces = [code("x", scope="export"), code("x", scope="open"), data("x", scope="export")]
        for one in pieces:
            for other in pieces:
                error = raised(self, Double, Book, Object("a", one), Object("b"), Object("c", other))
                self.assertEqual((error.name, error.first, error.second), ("x", "a", "c"))

    def test_the_earliest_pair_counts(self):
        units = [strong("a", "x"), strong("b", "x"), strong("c", "x", "y"), strong("d", "y")]
        error = raised(self, Double, Book, *units)
        self.assertEqual((error.name, error.first, error.second), ("x", "a", "b"))

    def test_errors_in_their_order(self):
        seven = objects_called("abcdefa")
        self.assertEqual(raised(self, InvalidUnit, Book, *seven, None).at, 7)
        self.assertEqual(raised(self, TooMany, Book, *seven).most, 6)
        many = [full("a"), full("b"), full("c"), strong("d", "x", "y")]
        self.assertEqual(raised(self, DuplicateName, Book, *many, strong("d", "x")).name, "d")
        self.assertEqual(raised(self, TooMany, Book, *many, strong("e", "x")).most, 24)


class ChangedBookTest(unittest.TestCase):
    def test_with_unit(self):
        added = Object("new")
        for at, names in enumerate(["new main lib spare", "main new lib spare", "main lib new spare"]):
            self.assertEqual([unit.name for unit in BOOK.with_unit(added, at)], names.split())
        for made in (BOOK.with_unit(added), BOOK.with_unit(added, 3), BOOK.with_unit(added, at=None)):
            self.assertEqual(made, Book(MAIN, LIB, SPARE, added))
        self.assertEqual(BOOK.with_unit(unit=added, at=1), Book(MAIN, added, LIB, SPARE))
        self.assertEqual(Book().with_unit(added, 0), Book(added))
        self.assertEqual(BOOK.units(), [MAIN, LIB, SPARE])

    def test_plus(self):
        self.assertEqual(BOOK + Object("new"), Book(MAIN, LIB, SPARE, Object("new")))
        self.assertEqual(Book() + LIB + MAIN, Book(LIB, MAIN))
        self.assertEqual(BOOK.units(), [MAIN, LIB, SPARE])

    def test_wrong_index(self):
        for value in all_odd_values() + [4, 100, "1", [1], MAIN]:
            if value is not None:
                self.assertIs(raised(self, InvalidNumber, BOOK.with_unit, Object("new"), value).value, value)
        # The index is checked ahead of the unit.
        self.assertEqual(raised(self, InvalidNumber, BOOK.with_unit, None, 4).value, 4)
        self.assertEqual(raised(self, InvalidNumber, BOOK.with_unit, MAIN, -1).value, -1)

    def test_with_unit_raises_as_the_constructor(self):
        def plus(book, unit):
            return book + unit

        for value in ODD_VALUES + NO_UNITS:
            self.assertEqual(raised(self, InvalidUnit, BOOK.with_unit, value).at, 3)
            self.assertEqual(raised(self, InvalidUnit, BOOK.with_unit, value, 1).at, 1)
            self.assertEqual(raised(self, InvalidUnit, plus, BOOK, value).at, 3)
        for call in (BOOK.with_unit, lambda unit: BOOK + unit):
            self.assertEqual(raised(self, DuplicateName, call, Object("lib")).name, "lib")
            error = raised(self, Double, call, strong("new", "main"))
            self.assertEqual((error.name, error.first, error.second), ("main", "main", "new"))
        error = raised(self, Double, BOOK.with_unit, strong("new", "main"), 0)
        self.assertEqual((error.name, error.first, error.second), ("main", "new", "main"))
        six = Book(*objects_called("abcdef"))
        self.assertEqual(raised(self, TooMany, six.with_unit, Object("a")).most, 6)
        self.assertEqual(raised(self, TooMany, Book(full("a"), full("b"), full("c")).with_unit, full("d")).most, 24)

    def test_without(self):
        self.assertEqual(BOOK.without("main"), Book(LIB, SPARE))
        self.assertEqual(BOOK.without(name="lib"), Book(MAIN, SPARE))
        self.assertEqual(Book(MAIN).without("main"), Book())
        self.assertEqual(BOOK.units(), [MAIN, LIB, SPARE])
        for value in all_odd_values() + ["two", "x", ["main"], MAIN]:
            self.assertIs(raised(self, UnknownName, BOOK.without, value).name, value)

    def test_without_asks_for_answers_anew(self):
        book = Book(strong("a", "x"), Object("b", code("x", scope="weak"), code("y", [("jump", "x")])))
        self.assertEqual(book.target(("b", "", "y", 0)), ("piece", "a", "", "x"))
        self.assertEqual(book.without("a").target(("b", "", "y", 0)), ("piece", "b", "", "x"))


class WideBookTest(unittest.TestCase):
    def test_more_units_and_pieces(self):
        many = wide_book(objects_called(LETTERS))
        self.assertEqual(len(many), 26)
        self.assertEqual(many.unit("z"), Object("z"))
        four = wide_book((full("a"), full("b"), full("c"), full("d")))
        self.assertEqual(len(four.ranked()), 32)
        self.assertEqual(wide_book(units=[MAIN, LIB, SPARE]), BOOK)
        self.assertEqual(wide_book([]), Book())

    def test_wide_objects(self):
        wide = wide_object("a", [code(letter) for letter in LETTERS], [])
        self.assertEqual(len(wide_book([wide]).ranked()), 26)
        self.assertEqual(raised(self, TooMany, Book, wide).most, 24)

    def test_a_wide_book_is_a_book(self):
        self.assertIs(wide_book([MAIN]).__class__, Book)
        four = wide_book([full("a"), full("b"), full("c"), full("d")])
        self.assertEqual(repr(four), "Book(4 units)")
        self.assertEqual(len(four.without("a").ranked()), 24)
        self.assertEqual(len(wide_book(objects_called(LETTERS)).without("c")), 25)
        self.assertEqual(raised(self, TooMany, wide_book(objects_called(LETTERS)).with_unit, MAIN).most, 6)

    def test_all_else_is_refused_alike(self):
        for value in ODD_VALUES + NO_UNITS:
            self.assertEqual(raised(self, InvalidUnit, wide_book, [MAIN, value]).at, 1)
        self.assertEqual(raised(self, DuplicateName, wide_book, objects_called("abcdefgc")).name, "c")
        error = raised(self, Double, wide_book, [full("a"), strong("c", "x"), full("d"), strong("b", "x")])
        self.assertEqual((error.name, error.first, error.second), ("x", "c", "b"))
        self.assertEqual(raised(self, InvalidUnit, wide_book, objects_called("aa") + [None]).at, 2)
        raised(self, DuplicateName, wide_book, [strong("a", "x"), strong("a", "x")])


class BookTextTest(unittest.TestCase):
    def test_there_and_back(self):
        text = (
            "object main\noutside print\ncode main 1 export\nhalt\ndata list 1 local\nend\n"
            "archive lib\nobject two\ncode print 1 export\nhalt\ncode x 1 local\nhalt\nend\n"
            "object one\ncode x 1 local\nhalt\nend\nend\n"
            "object spare\ncode x 1 weak\nhalt\nend\n"
        )
        self.assertEqual(BOOK.text(), text)
        self.assertEqual(str(BOOK), text)
        self.assertEqual(f"{BOOK}", text)
        self.assertEqual(Book.read(text), BOOK)
        self.assertEqual(Book.read(text=text), BOOK)
        self.assertEqual(BOOK.read(text), BOOK)

    def test_the_empty_book(self):
        self.assertEqual([Book().text(), str(Book())], ["", ""])
        self.assertEqual(Book.read(""), Book())

    def test_refused_texts(self):
        for text, line, why in (
            ("object main", 0, "form"),
            ("object main\n", 1, "missing"),
            ("object main\nend\nobject main\nend\n", 2, "double"),
            ("object a\ncode x 1 local\nout r0\nend\n", 3, "closing"),
            ("".join([f"object {name}\nend\n" for name in "abcdefg"]), 12, "many"),
            ("object a\ncode x 1 open\nhalt\nend\nobject b\ndata x 1 export\nend\n", 5, "strong"),
        ):
            error = raised(self, InvalidText, Book.read, text)
            self.assertEqual((error.line, error.why), (line, why))

    def test_values_that_are_no_texts(self):
        for value in [value for value in all_odd_values() if not isinstance(value, str)] + [BOOK, b""]:
            error = raised(self, InvalidText, Book.read, value)
            self.assertEqual((error.line, error.why), (0, "form"))

    def test_helper(self):
        self.assertEqual(book_of("object a; code x 1 local; halt; end"), Book(Object("a", code("x"))))


if __name__ == "__main__":
    unittest.main()

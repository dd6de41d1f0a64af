"""Answers, references, targets and known names: points [11] and [12]."""

import itertools
import unittest

from leastimage.books import Book
from leastimage.errors import UnknownPlace
from leastimage.objects import Archive, Object

from common import all_odd_values, book_of, code, data, raised

# A unit with a piece x for each kind of piece that may answer, best one first.
KINDS = [
    Object("strong", code("x", scope="export")),
    Archive("first", Object("m", code("y"), code("x", scope="open"))),
    Archive("second", Object("m", code("y")), Object("n", code("x", scope="export"))),
    Archive("wfirst", Object("m", code("x", scope="weak"))),
    Object("wthen", data("x", scope="weak")),
]


def key_of_x(unit):
    if isinstance(unit, Object):
        return (unit.name, "", "x")
    return (unit.name, unit.members()[-1].name, "x")


class AnswerTest(unittest.TestCase):
    def test_strong_member_and_weak_pieces_in_each_order(self):
        for many in range(1, 6):
            for units in itertools.permutations(KINDS, many):
                book = Book(*units)
                strong = [unit for unit in units if unit.name == "strong"]
                members = [unit for unit in units if unit.name in ("first", "second")]
                best = (strong + members + list(units))[0]
                self.assertEqual(book.answer("x"), key_of_x(best), [unit.name for unit in units])

    def test_a_strong_piece_of_an_object_behind_a_member(self):
        book = book_of("archive l; object m; code x 1 export; halt; end; end; object o; data x 1 export; end")
        self.assertEqual(book.answer("x"), ("o", "", "x"))

    def test_members_by_ranks(self):
        text = "archive {}; object m; code x 1 weak; halt; end; object k; code x 1 open; halt; end;"
        text = text + " object a; code x 1 export; halt; end; end"
        book = book_of(text.replace("{}", "z"), text.replace("{}", "a"))
        self.assertEqual(book.answer("x"), ("z", "k", "x"))

    def test_local_pieces_are_no_answers(self):
        book = book_of("object o; code x 1 local keep; halt; end")
        self.assertIsNone(book.answer("x"))
        book = book_of("object o; code x 1 local; halt; end; object p; code x 1 weak; halt; end")
        self.assertEqual(book.answer("x"), ("p", "", "x"))

    def test_names_without_an_answer(self):
        book = book_of("object o; outside q; code x 1 export; jump y; end")
        for name in ("y", "q", "o", "xx", "z"):
            self.assertIsNone(book.answer(name))
            self.assertIsNone(Book().answer(name))

    def test_values_that_are_no_names(self):
        book = book_of("object o; code x 1 export; jump y; end")
        for value in all_odd_values() + [["x"], ("x",), "X", "x ", 0, book]:
            self.assertIsNone(book.answer(value))
        self.assertEqual(book.answer(name="x"), ("o", "", "x"))


class ReferencesTest(unittest.TestCase):
    def test_all_rows(self):
        rows = "put r0 1; name r1 a; add r0 r1; take r0 r1; load r0 r1 2; store r0 r1 2; jump a; ifzero r0 a;"
        rest = "call a; callby r0; back; out r0; halt; room 3; name r0 a; halt"
        book = book_of("object o; code x 1 local;" + rows + rest + "; end")
        self.assertEqual(book.references(("o", "", "x")), [1, 6, 7, 8, 14])
        self.assertEqual(book.references(key=("o", "", "x")), [1, 6, 7, 8, 14])

    def test_data_rows(self):
        book = book_of("object o; data x 1 local; word 1; address a; room 2; address x; data y 1 local; end")
        self.assertEqual(book.references(("o", "", "x")), [1, 3])
        self.assertEqual(book.references(("o", "", "y")), [])

    def test_a_new_list(self):
        book = book_of("object o; code x 1 local; jump x; end")
        book.references(("o", "", "x")).clear()
        self.assertEqual(book.references(("o", "", "x")), [0])


class TargetTest(unittest.TestCase):
    def check(self, book, place, target, behind):
        self.assertEqual(book.target(place), target)
        self.assertEqual(book.behind(place), behind)

    def test_the_local_piece_comes_first(self):
        book = book_of("object o; code a 1 local; jump x; code x 1 local; halt; end; object p; code x 1 open; halt; end")
        self.check(book, ("o", "", "a", 0), ("piece", "o", "", "x"), ("o", "", "x"))

    def test_local_pieces_of_members(self):
        member = "code a 1 local; jump x; code x 1 local; halt; end;"
        book = book_of("archive l; object m;" + member + "object n;" + member + "end")
        self.check(book, ("l", "m", "a", 0), ("piece", "l", "m", "x"), ("l", "m", "x"))
        self.check(book, ("l", "n", "a", 0), ("piece", "l", "n", "x"), ("l", "n", "x"))

    def test_local_pieces_of_other_objects_are_no_targets(self):
        book = book_of("archive l; object m; code a 1 local; jump x; end; object n; code x 1 local; halt; end; end")
        self.check(book, ("l", "m", "a", 0), ("none", "x"), None)

    def test_a_shared_piece_of_the_own_object_is_not_preferred(self):
        book = book_of("object o; code a 1 local; jump x; code x 1 weak; halt; end; object p; code x 1 export; halt; end")
        self.check(book, ("o", "", "a", 0), ("piece", "p", "", "x"), ("p", "", "x"))

    def test_outside_names(self):
        caller = "object o; outside x; code a 1 local; jump x; end;"
        place = ("o", "", "a", 0)
        self.check(book_of(caller[:-1]), place, ("stub", "x"), None)
        for scope in ("export", "open", "weak"):
            book = book_of(caller + f"object p; code x 1 {scope}; halt; end")
            self.check(book, place, ("stub", "x"), ("p", "", "x"))
        book = book_of(caller + "object p; code x 1 local; halt; end")
        self.check(book, place, ("stub", "x"), None)

    def test_outside_names_of_other_objects_mean_nothing(self):
        book = book_of("object o; code a 1 local; jump x; end; object p; outside x; end")
        self.check(book, ("o", "", "a", 0), ("none", "x"), None)
        book = book_of("archive l; object o; code a 1 local; jump x; end; object p; outside x; end; end")
        self.check(book, ("l", "o", "a", 0), ("none", "x"), None)

    def test_data_behind_a_stub(self):
        book = book_of("object o; outside x; code a 1 local; jump x; end; object p; data x 1 export; end")
        self.check(book, ("o", "", "a", 0), ("stub", "x"), None)

    def test_open_answers(self):
        for unit in ("object p; code x 1 open; halt; end", "archive p; object m; code x 1 open; halt; end; end"):
            book = book_of("object o; data a 1 local; address x; end;" + unit)
            self.check(book, ("o", "", "a", 0), ("stub", "x"), book.answer("x"))
        book = book_of("object o; code a 1 local; jump x; code x 1 open; halt; end")
        self.check(book, ("o", "", "a", 0), ("stub", "x"), ("o", "", "x"))

    def test_open_pieces_that_are_no_answers(self):
        book = book_of(
            "archive p; object m; code x 1 open; jump x; end; end; object o; code x 1 export; halt; end"
        )
        self.check(book, ("p", "m", "x", 0), ("piece", "o", "", "x"), ("o", "", "x"))

    def test_data_answers(self):
        book = book_of("object o; code a 1 local; jump x; data x 1 weak; address a; address x; end")
        self.check(book, ("o", "", "a", 0), ("piece", "o", "", "x"), ("o", "", "x"))
        self.check(book, ("o", "", "x", 0), ("piece", "o", "", "a"), ("o", "", "a"))
        self.check(book, ("o", "", "x", 1), ("piece", "o", "", "x"), ("o", "", "x"))

    def test_names_without_an_answer(self):
        book = book_of("object o; code a 1 export; jump x; end")
        self.check(book, ("o", "", "a", 0), ("none", "x"), None)

    def test_values_that_are_no_places_of_references(self):
        book = book_of("object o; code a 1 export; put r0 1; jump a; data b 1 local; word 1; address a; end")
        place = ("o", "", "a", 1)
        self.assertEqual(book.target(place=place), ("piece", "o", "", "a"))
        self.assertEqual(book.behind(place=place), ("o", "", "a"))
        others = [
            ("o", "", "a", 0),
            ("o", "", "a", 2),
            ("o", "", "a", -1),
            ("o", "", "a", True),
            ("o", "", "b", True),
            ("o", "", "b", 0),
            ("o", "", "a", "1"),
            ("o", "", "a", [1]),
            ("o", "", "a", None),
            ("o", "", "a"),
            ("o", "", "a", 1, 1),
            ("o", "", "c", 1),
            ("o", None, "a", 1),
            ("o", [], "a", 1),
            ["o", "", "a", 1],
            "oa1",
            (("o", "", "a"), 1),
        ]
        for value in all_odd_values() + others:
            self.assertIs(raised(self, UnknownPlace, book.target, value).spot, value)
            self.assertIs(raised(self, UnknownPlace, book.behind, value).spot, value)


class KnownTest(unittest.TestCase):
    def test_where_known_names_come_from(self):
        for text, names in (
            ("object o; code a 1 local; jump x; end", ["x"]),
            ("object o; code a 1 local; jump a; end", ["a"]),
            ("object o; data a 1 local; address x; end", ["x"]),
            ("object o; code a 1 export; halt; code b 1 open; halt; code c 1 weak; halt; end", ["a", "b", "c"]),
            ("object o; data b 1 export; data a 1 weak; end", ["a", "b"]),
            ("object o; outside z; outside b; end", ["b", "z"]),
            ("archive l; object m; outside z; code y 1 weak; call x; halt; end; end", ["x", "y", "z"]),
            ("object o; code a 1 local keep; halt; end", []),
            ("archive l; object m; end; end", []),
        ):
            self.assertEqual(book_of(text).known(), names, text)
        self.assertEqual(Book().known(), [])

    def test_each_name_once(self):
        book = book_of("object o; outside x; code y 1 export; call x; jump x; end; object p; outside x; outside y; end")
        self.assertEqual(book.known(), ["x", "y"])


if __name__ == "__main__":
    unittest.main()

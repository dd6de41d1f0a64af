"""Objects and archives: point [5], leastimage/objects.py."""

import unittest

from leastimage.errors import (
    DuplicateName,
    InvalidMember,
    InvalidName,
    InvalidOutside,
    InvalidPiece,
    TooMany,
    UnknownName,
)
from leastimage.objects import Archive, Object, wide_object
from leastimage.pieces import Piece

from common import ODD_VALUES, all_odd_values, code, data, raised

LETTERS = "abcdefghijklmnopqrstuvwxyz"


def pieces_called(names):
    return [code(name) for name in names]


def objects_called(names):
    return [Object(name) for name in names]


class RightObjectTest(unittest.TestCase):
    def test_pieces_and_outside_names(self):
        pieces = [code("main"), data("list")]
        made = Object("lib", *pieces, outside=["print", "read"])
        self.assertEqual(made.name, "lib")
        self.assertEqual(made.pieces(), pieces)
        self.assertEqual(made.outside(), ["print", "read"])

    def test_defaults(self):
        made = Object("lib")
        self.assertEqual(made.pieces(), [])
        self.assertEqual(made.outside(), [])

    def test_bounds(self):
        made = Object("a", *pieces_called(LETTERS[:8]), outside=list(LETTERS[8:16]))
        self.assertEqual(len(made), 8)
        self.assertEqual(made.outside(), list(LETTERS[8:16]))

    def test_a_piece_may_have_the_name_of_its_object(self):
        self.assertEqual(Object("a", code("a")).piece("a"), code("a"))
        self.assertEqual(Object("a", outside=["a"]).outside(), ["a"])

    def test_given_outside_names_are_copied(self):
        for kind in (list, tuple):
            names = kind(["x", "y"])
            made = Object("a", outside=names)
            if kind is list:
                names.append("z")
                names[0] = "b"
            self.assertEqual(made.outside(), ["x", "y"])

    def test_returned_lists_are_new(self):
        made = Object("a", code("b"), outside=("x",))
        for told in (made.pieces, made.outside):
            kept = told()
            self.assertIsInstance(kept, list)
            kept.clear()
            self.assertEqual(len(told()), 1)
            self.assertIsNot(told(), told())

    def test_piece(self):
        made = Object("a", code("b"), data("c"))
        self.assertEqual(made.piece("b"), code("b"))
        self.assertEqual(made.piece(name="c"), data("c"))

    def test_unknown_pieces(self):
        made = Object("a", code("b"), outside=["x"])
        for value in all_odd_values() + ["a", "x", "bb", "B", 0, ("b",), code("b")]:
            self.assertIs(raised(self, UnknownName, made.piece, value).name, value)

    def test_contains(self):
        made = Object("a", code("b"), data("c"), outside=["x"])
        self.assertIs("b" in made, True)
        self.assertIs("c" in made, True)
        for value in all_odd_values() + ["a", "x", "d", "bc", code("b"), ["b"], ("b",)]:
            self.assertIs(value in made, False)
            self.assertIs(value in Object("a"), False)

    def test_equal(self):
        made = Object("a", code("b"), code("c"), outside=["x", "y"])
        self.assertTrue(made == Object("a", code("b"), code("c"), outside=("x", "y")))
        self.assertFalse(made != Object("a", code("b"), code("c"), outside=("x", "y")))
        for other in (
            Object("b", code("b"), code("c"), outside=["x", "y"]),
            Object("a", code("c"), code("b"), outside=["x", "y"]),
            Object("a", code("b"), outside=["x", "y"]),
            Object("a", code("b"), code("c", keep=True), outside=["x", "y"]),
            Object("a", code("b"), code("c"), outside=["y", "x"]),
            Object("a", code("b"), code("c"), outside=["x"]),
            Object("a", code("b"), code("c")),
        ):
            self.assertFalse(made == other)
            self.assertTrue(made != other)

    def test_nothing_of_another_class_is_equal(self):
        for value in all_odd_values() + ["a", Archive("a"), ("a", [], [])]:
            self.assertFalse(Object("a") == value)
            self.assertFalse(value == Object("a"))

    def test_length_truth_and_repr(self):
        made = Object("lib", code("a"), code("b"), outside=["x"])
        self.assertEqual(len(made), 2)
        self.assertEqual(len(Object("lib")), 0)
        self.assertIs(bool(made), True)
        self.assertIs(bool(Object("lib")), True)
        self.assertEqual(repr(made), "Object(lib, 2 pieces)")
        self.assertEqual(repr(Object("a", code("b"))), "Object(a, 1 pieces)")
        self.assertEqual(repr(Object("a")), "Object(a, 0 pieces)")


class WrongObjectTest(unittest.TestCase):
    def test_invalid_name(self):
        for value in all_odd_values() + ["Lib", "abcdefg", "a b", 5, ["a"]]:
            self.assertIs(raised(self, InvalidName, Object, value).value, value)

    def test_first_value_that_is_no_piece(self):
        for value in ODD_VALUES + ["b", Object("b"), [code("b")], (code("b"),)]:
            self.assertEqual(raised(self, InvalidPiece, Object, "a", value).at, 0)
            self.assertEqual(raised(self, InvalidPiece, Object, "a", code("b"), value, 7).at, 1)

    def test_too_many_pieces(self):
        error = raised(self, TooMany, Object, "a", *pieces_called(LETTERS[:9]))
        self.assertEqual(error.most, 8)

    def test_first_duplicate_piece(self):
        error = raised(self, DuplicateName, Object, "a", *pieces_called("bcdcb"))
        self.assertEqual(error.name, "c")
        raised(self, DuplicateName, Object, "a", code("b"), data("b"))

    def test_outside_that_is_no_list(self):
        for value in (None, True, 3, "", "xy", code("b"), {}):
            self.assertEqual(raised(self, InvalidOutside, Object, "a", outside=value).at, -1)

    def test_too_many_outside_names(self):
        self.assertEqual(raised(self, TooMany, Object, "a", outside=list(LETTERS[:9])).most, 8)
        self.assertEqual(raised(self, TooMany, Object, "a", outside=(None,) * 9).most, 8)

    def test_first_wrong_outside_name(self):
        for value in all_odd_values() + ["X", "abcdefg", 5, ["x"], ("x",)]:
            error = raised(self, InvalidOutside, Object, "a", outside=["x", value, "x"])
            self.assertEqual(error.at, 1)
        error = raised(self, InvalidOutside, Object, "a", outside=["x", "y", "x", None])
        self.assertEqual(error.at, 2)
        error = raised(self, InvalidOutside, Object, "a", code("b"), outside=["x", "b", "x"])
        self.assertEqual(error.at, 1)
        error = raised(self, InvalidOutside, Object, "a", code("b"), data("c"), outside=("c",))
        self.assertEqual(error.at, 0)

    def test_order_of_errors(self):
        many = pieces_called(LETTERS[:7] + "aa")
        wrong = [
            (InvalidName, "A", many + [None], 5),
            (InvalidPiece, "a", many + [None], 5),
            (TooMany, "a", many, 5),
            (DuplicateName, "a", many[:2] + many[:2], 5),
            (InvalidOutside, "a", many[:2], 5),
            (TooMany, "a", many[:2], ["a"] * 9),
            (InvalidOutside, "a", many[:2], ["a"]),
        ]
        for error, name, pieces, outside in wrong:
            raised(self, error, Object, name, *pieces, outside=outside)

    def test_wrong_calls_leave_the_outside_names(self):
        names = ["x", "x"]
        raised(self, InvalidOutside, Object, "a", outside=names)
        self.assertEqual(names, ["x", "x"])


class WithPieceTest(unittest.TestCase):
    def setUp(self):
        self.made = Object("a", code("b"), code("c"), code("d"), outside=["x"])

    def test_a_new_name_stands_behind(self):
        found = self.made.with_piece(data("e"))
        self.assertEqual(found, Object("a", code("b"), code("c"), code("d"), data("e"), outside=["x"]))

    def test_a_known_name_keeps_its_place(self):
        found = self.made.with_piece(piece=data("c"))
        self.assertEqual(found, Object("a", code("b"), data("c"), code("d"), outside=["x"]))

    def test_the_object_stays_as_it_is(self):
        before = Object("a", code("b"), code("c"), code("d"), outside=["x"])
        self.made.with_piece(data("c"))
        self.made.with_piece(data("e"))
        raised(self, InvalidPiece, self.made.with_piece, None)
        self.assertEqual(self.made, before)

    def test_no_piece(self):
        for value in ODD_VALUES + ["b", Object("b"), [code("e")]]:
            self.assertEqual(raised(self, InvalidPiece, self.made.with_piece, value).at, 3)
        self.assertEqual(raised(self, InvalidPiece, Object("a").with_piece, None).at, 0)

    def test_the_ninth_piece(self):
        full = Object("a", *pieces_called(LETTERS[:8]))
        self.assertEqual(raised(self, TooMany, full.with_piece, code("i")).most, 8)
        self.assertEqual(raised(self, InvalidPiece, full.with_piece, None).at, 8)
        self.assertEqual(full.with_piece(data("h")).pieces()[7], data("h"))

    def test_an_outside_name(self):
        self.assertEqual(raised(self, InvalidOutside, self.made.with_piece, code("x")).at, 0)

    def test_wide_objects_raise_as_the_constructor(self):
        wide = wide_object("a", pieces_called(LETTERS[:9]), [])
        raised(self, TooMany, wide.with_piece, code("a"))
        raised(self, TooMany, wide.with_piece, code("z"))
        self.assertEqual(raised(self, InvalidPiece, wide.with_piece, None).at, 9)


class ArchiveTest(unittest.TestCase):
    def test_members(self):
        members = [Object("b", code("c")), Object("d", code("c"))]
        made = Archive("a", *members)
        self.assertEqual(made.name, "a")
        self.assertEqual(made.members(), members)
        self.assertEqual(Archive("a").members(), [])
        self.assertEqual(len(Archive("a", *objects_called("bcde"))), 4)
        self.assertEqual(Archive("a", Object("a")).member("a"), Object("a"))

    def test_returned_members_are_new(self):
        made = Archive("a", Object("b"))
        kept = made.members()
        self.assertIsInstance(kept, list)
        kept.clear()
        self.assertEqual(made.members(), [Object("b")])

    def test_member(self):
        made = Archive("a", Object("b"), Object("c", code("d")))
        self.assertEqual(made.member("b"), Object("b"))
        self.assertEqual(made.member(name="c"), Object("c", code("d")))
        for value in all_odd_values() + ["a", "d", "bc", 0, ("b",), Object("b")]:
            self.assertIs(raised(self, UnknownName, made.member, value).name, value)

    def test_contains(self):
        made = Archive("a", Object("b", code("d")), Object("c"))
        self.assertIs("b" in made, True)
        self.assertIs("c" in made, True)
        for value in all_odd_values() + ["a", "d", Object("b"), ["b"]]:
            self.assertIs(value in made, False)

    def test_equal(self):
        made = Archive("a", Object("b"), Object("c"))
        self.assertTrue(made == Archive("a", Object("b"), Object("c")))
        self.assertFalse(made != Archive("a", Object("b"), Object("c")))
        for other in (
            Archive("b", Object("b"), Object("c")),
            Archive("a", Object("c"), Object("b")),
            Archive("a", Object("b")),
            Archive("a", Object("b"), Object("c", code("d"))),
        ):
            self.assertFalse(made == other)
            self.assertTrue(made != other)
        for value in all_odd_values() + ["a", Object("a"), ("a", [])]:
            self.assertFalse(Archive("a") == value)
            self.assertFalse(value == Archive("a"))

    def test_length_truth_and_repr(self):
        made = Archive("lib", Object("a"), Object("b"))
        self.assertEqual(len(made), 2)
        self.assertEqual(len(Archive("lib")), 0)
        self.assertIs(bool(made), True)
        self.assertIs(bool(Archive("lib")), True)
        self.assertEqual(repr(made), "Archive(lib, 2 members)")
        self.assertEqual(repr(Archive("a", Object("b"))), "Archive(a, 1 members)")
        self.assertEqual(repr(Archive("a")), "Archive(a, 0 members)")

    def test_invalid_name(self):
        for value in all_odd_values() + ["Lib", "abcdefg", 5]:
            self.assertIs(raised(self, InvalidName, Archive, value).value, value)

    def test_first_value_that_is_no_object(self):
        for value in all_odd_values() + ["b", Archive("b"), [Object("b")], (Object("b"),)]:
            self.assertEqual(raised(self, InvalidMember, Archive, "a", value).at, 0)
            error = raised(self, InvalidMember, Archive, "a", Object("b"), Object("c"), value, 5)
            self.assertEqual(error.at, 2)

    def test_too_many_members(self):
        self.assertEqual(raised(self, TooMany, Archive, "a", *objects_called("bcdef")).most, 4)

    def test_first_duplicate_member(self):
        self.assertEqual(raised(self, DuplicateName, Archive, "a", *objects_called("bccb")).name, "c")

    def test_order_of_errors(self):
        many = objects_called("bbbbb")
        raised(self, InvalidName, Archive, "A", None, *many)
        raised(self, InvalidMember, Archive, "a", *many, None)
        raised(self, TooMany, Archive, "a", *many)
        raised(self, DuplicateName, Archive, "a", *many[:2])

    def test_wide_members(self):
        wide = wide_object("b", pieces_called(LETTERS), [])
        self.assertEqual(Archive("a", wide).member("b").pieces(), pieces_called(LETTERS))


class WideObjectTest(unittest.TestCase):
    def test_longer_lists(self):
        names = [one + two for one in "abcdefghij" for two in LETTERS]
        wide = wide_object("a", pieces_called(LETTERS), names)
        self.assertIsInstance(wide, Object)
        self.assertEqual(wide.name, "a")
        self.assertEqual(wide.pieces(), pieces_called(LETTERS))
        self.assertEqual(wide.outside(), names)
        self.assertEqual(len(wide), 26)
        self.assertEqual(repr(wide), "Object(a, 26 pieces)")
        self.assertIs("z" in wide, True)
        self.assertEqual(wide.piece("z"), code("z"))

    def test_short_lists(self):
        self.assertEqual(wide_object("a", [code("b")], ["x"]), Object("a", code("b"), outside=["x"]))
        self.assertEqual(wide_object(outside=(), pieces=(), name="a"), Object("a"))

    def test_lists_are_copied(self):
        pieces, outside = pieces_called("bc"), ["x"]
        wide = wide_object("a", pieces, outside)
        pieces.clear()
        outside.append("y")
        wide.pieces().clear()
        wide.outside().clear()
        self.assertEqual(wide, Object("a", code("b"), code("c"), outside=["x"]))

    def test_all_else_is_refused(self):
        many = pieces_called(LETTERS)
        self.assertEqual(raised(self, InvalidName, wide_object, "A", [None], 5).value, "A")
        self.assertEqual(raised(self, InvalidPiece, wide_object, "a", many + [None], 5).at, 26)
        self.assertEqual(raised(self, DuplicateName, wide_object, "a", many + [code("z")], 5).name, "z")
        self.assertEqual(raised(self, InvalidOutside, wide_object, "a", many, 5).at, -1)
        names = ["x" + letter for letter in LETTERS]
        for value in all_odd_values() + ["z", "xa", 5]:
            self.assertEqual(raised(self, InvalidOutside, wide_object, "a", many, names + [value]).at, 26)


class UnchangedTest(unittest.TestCase):
    def test_pieces_stay_within_objects(self):
        rows = [("put", "r0", 1), ("halt",)]
        piece = Piece("b", "code", rows)
        made = Object("a", piece)
        rows.clear()
        made.pieces()[0].rows().clear()
        self.assertEqual(made.piece("b").rows(), [("put", "r0", 1), ("halt",)])


if __name__ == "__main__":
    unittest.main()

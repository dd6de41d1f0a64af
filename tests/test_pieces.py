"""Pieces: point [4], leastimage/pieces.py."""

import unittest

from leastimage.errors import (
    InvalidAlignment,
    InvalidName,
    InvalidPart,
    InvalidRow,
    InvalidScope,
    NotClosing,
    TooMany,
)
from leastimage.pieces import Piece

from common import HALT, all_odd_values, code, data, raised

ROWS = [("put", "r0", 1), ("out", "r0"), ("halt",)]


class RightPieceTest(unittest.TestCase):
    def test_defaults(self):
        piece = Piece("main", "code", ROWS)
        self.assertEqual(piece.name, "main")
        self.assertEqual(piece.part, "code")
        self.assertEqual(piece.rows(), ROWS)
        self.assertEqual(piece.alignment, 1)
        self.assertEqual(piece.scope, "local")
        self.assertIs(piece.keep, False)

    def test_all_values(self):
        piece = Piece("list", "data", [("word", 1)], alignment=8, scope="weak", keep=True)
        self.assertEqual((piece.name, piece.part, piece.alignment), ("list", "data", 8))
        self.assertEqual((piece.scope, piece.keep), ("weak", True))
        self.assertIs(piece.keep, True)
        self.assertEqual(piece.rows(), [("word", 1)])

    def test_values_by_name_and_by_place(self):
        named = Piece(scope="open", rows=ROWS, part="code", keep=True, name="main", alignment=2)
        self.assertEqual(named, Piece("main", "code", ROWS, alignment=2, scope="open", keep=True))
        with self.assertRaises(TypeError):
            Piece("main", "code", ROWS, 2)

    def test_alignments(self):
        for alignment in (1, 2, 4, 8, 16):
            self.assertEqual(code("a", alignment=alignment).alignment, alignment)

    def test_scopes(self):
        cases = [
            ("local", False, False),
            ("export", True, True),
            ("open", True, True),
            ("weak", True, False),
        ]
        for scope, shared, strong in cases:
            piece = code("a", scope=scope)
            self.assertIs(piece.is_shared(), shared, scope)
            self.assertIs(piece.is_strong(), strong, scope)
            if scope != "open":
                self.assertIs(data("a", scope=scope).is_shared(), shared, scope)
                self.assertIs(data("a", scope=scope).is_strong(), strong, scope)

    def test_closing_rows(self):
        for row in (("jump", "a"), ("halt",), ("back",)):
            self.assertEqual(code("a", [row]).rows(), [row])

    def test_numbers_of_rows(self):
        self.assertEqual(data("a").rows(), [])
        self.assertEqual(len(data("a", [("word", 1)] * 16)), 16)
        self.assertEqual(len(code("a", [("back",)] * 16)), 16)

    def test_room_is_a_row_of_both_parts(self):
        self.assertEqual(code("a", [("room", 3), ("halt",)]).rows()[0], ("room", 3))
        self.assertEqual(data("a", [("room", 3)]).rows(), [("room", 3)])

    def test_given_rows_are_copied(self):
        rows = list(ROWS)
        piece = Piece("main", "code", rows)
        self.assertEqual(rows, ROWS)
        rows[0] = ("back",)
        rows.append(("halt",))
        self.assertEqual(piece.rows(), ROWS)
        self.assertEqual(len(piece), 3)

    def test_returned_rows_are_new(self):
        piece = Piece("main", "code", tuple(ROWS))
        rows = piece.rows()
        self.assertIsInstance(rows, list)
        rows.clear()
        self.assertEqual(piece.rows(), ROWS)
        self.assertIsNot(piece.rows(), piece.rows())

    def test_length_truth_and_repr(self):
        self.assertEqual(len(Piece("main", "code", ROWS)), 3)
        self.assertEqual(len(data("a")), 0)
        self.assertIs(bool(data("a")), True)
        self.assertIs(bool(code("a")), True)
        self.assertEqual(repr(Piece("main", "code", ROWS)), "Piece(code main, 3 rows)")
        self.assertEqual(repr(code("a")), "Piece(code a, 1 rows)")
        self.assertEqual(repr(data("list")), "Piece(data list, 0 rows)")

    def test_equal_in_all(self):
        self.assertEqual(code("a", ROWS), code("a", tuple(ROWS)))
        self.assertTrue(code("a") == code("a"))
        self.assertFalse(code("a") != code("a"))

    def test_unequal_in_one(self):
        piece = Piece("a", "data", [("room", 1)])
        others = [
            Piece("b", "data", [("room", 1)]),
            Piece("a", "data", [("room", 2)]),
            Piece("a", "data", []),
            Piece("a", "data", [("room", 1), ("room", 1)]),
            Piece("a", "data", [("room", 1)], alignment=2),
            Piece("a", "data", [("room", 1)], scope="weak"),
            Piece("a", "data", [("room", 1)], keep=True),
        ]
        for other in others:
            self.assertFalse(piece == other, other)
            self.assertTrue(piece != other, other)
        self.assertNotEqual(data("a", [("room", 1)]), code("a", [("room", 1), ("halt",)]))

    def test_nothing_of_another_class_is_equal(self):
        piece = code("a")
        for value in all_odd_values() + ["a", ("halt",), HALT, "Piece(code a, 1 rows)"]:
            self.assertFalse(piece == value)
            self.assertFalse(value == piece)


class WrongPieceTest(unittest.TestCase):
    def test_invalid_name(self):
        for value in all_odd_values() + ["Main", "abcdefg", "a1", 5, ["a"]]:
            error = raised(self, InvalidName, Piece, value, "code", HALT)
            self.assertIs(error.value, value)

    def test_invalid_part(self):
        for value in all_odd_values() + ["Code", "datas", "text", ("code",), ["code"], 0]:
            error = raised(self, InvalidPart, Piece, "a", value, HALT)
            self.assertIs(error.value, value)

    def test_rows_that_are_no_list(self):
        for value in (None, True, 5, "halt", "", code("a"), {}):
            self.assertEqual(raised(self, InvalidRow, Piece, "a", "code", value).at, -1)
            self.assertEqual(raised(self, InvalidRow, Piece, "a", "data", value).at, -1)

    def test_too_many_rows(self):
        self.assertEqual(raised(self, TooMany, code, "a", HALT * 17).most, 16)
        self.assertEqual(raised(self, TooMany, data, "a", [("word", 1)] * 17).most, 16)
        self.assertEqual(raised(self, TooMany, data, "a", (None,) * 17).most, 16)

    def test_first_wrong_row(self):
        self.assertEqual(raised(self, InvalidRow, code, "a", [None]).at, 0)
        self.assertEqual(raised(self, InvalidRow, code, "a", [("halt",), ["halt"], None]).at, 1)
        self.assertEqual(raised(self, InvalidRow, code, "a", [("halt",)] * 15 + ["halt"]).at, 15)
        for value in all_odd_values():
            self.assertEqual(raised(self, InvalidRow, data, "a", [("word", 1), value]).at, 1)

    def test_rows_of_the_other_part(self):
        self.assertEqual(raised(self, InvalidRow, code, "a", [("word", 1), ("halt",)]).at, 0)
        self.assertEqual(raised(self, InvalidRow, code, "a", [("halt",), ("address", "a")]).at, 1)
        self.assertEqual(raised(self, InvalidRow, data, "a", [("room", 1), ("halt",)]).at, 1)
        self.assertEqual(raised(self, InvalidRow, data, "a", [("put", "r0", 1)]).at, 0)

    def test_not_closing(self):
        for rows in ([], (), [("room", 1)], [("halt",), ("out", "r0")], [("call", "a")], [("ifzero", "r0", "a")]):
            raised(self, NotClosing, code, "a", rows)

    def test_invalid_alignment(self):
        for value in all_odd_values() + [0, 3, 5, 6, 7, 9, 15, 17, 32, 64, -2, "1", (1,), [1], True]:
            error = raised(self, InvalidAlignment, code, "a", alignment=value)
            self.assertIs(error.value, value)
            raised(self, InvalidAlignment, data, "a", alignment=value)

    def test_invalid_scope(self):
        for value in all_odd_values() + ["Local", "strong", "exports", ("local",), ["open"], 0]:
            error = raised(self, InvalidScope, code, "a", scope=value)
            self.assertIs(error.value, value)
            raised(self, InvalidScope, data, "a", scope=value)

    def test_open_data(self):
        self.assertEqual(raised(self, InvalidScope, data, "a", scope="open").value, "open")

    def test_order_of_errors(self):
        # Each value is put right in turn, so each time the next error comes.
        many, bent = [None] * 17, [None] * 16
        loose = [("out", "r0")]
        wrong = [
            (InvalidName, ("A", "text", 5, 3, "none")),
            (InvalidPart, ("a", "text", 5, 3, "none")),
            (InvalidRow, ("a", "code", 5, 3, "none")),
            (TooMany, ("a", "code", many, 3, "none")),
            (InvalidRow, ("a", "code", bent, 3, "none")),
            (NotClosing, ("a", "code", loose, 3, "none")),
            (InvalidAlignment, ("a", "code", HALT, 3, "none")),
            (InvalidScope, ("a", "code", HALT, 4, "none")),
        ]
        for error, (name, part, rows, alignment, scope) in wrong:
            raised(self, error, Piece, name, part, rows, alignment=alignment, scope=scope)
        raised(self, InvalidAlignment, data, "a", alignment=3, scope="open")

    def test_a_wrong_call_leaves_the_rows(self):
        rows = [("out", "r0"), ("put", "r0", True)]
        raised(self, InvalidRow, code, "a", rows)
        self.assertEqual(rows, [("out", "r0"), ("put", "r0", True)])


if __name__ == "__main__":
    unittest.main()

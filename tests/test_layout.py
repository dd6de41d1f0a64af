"""The offsets of images: points [14] and [22], leastimage/layout.py."""

import random
import unittest

from leastimage.books import Book
from leastimage.closure import needs_of
from leastimage.errors import InvalidNeed, InvalidPage, UnknownPiece, UnknownPlace, UnknownStub
from leastimage.layout import Layout

import models
from common import all_odd_values, book_of, raised

BOOK = book_of(
    "object o; outside y; outside x; code a 8 export; put r0 1; call x; name r0 d; halt; data d 4 local; word 1; room 3;",
    "address a; code b 2 local; out r0; jump y; data e 16 local; data f 1 local; address f; data g 8 local; end;",
    "archive l; object m; code x 16 export; room 5; back; end; end",
)


def live(*names):
    return [("live", "o", "", name) for name in names]


NEEDS = live("a", "b", "d", "e", "f", "g") + [
    ("live", "l", "m", "x"),
    ("drawn", "l", "m"),
    ("stub", "y"),
    ("stub", "x"),
    ("long", "o", "", "a", 2),
    ("long", "o", "", "b", 1),
]
# Stubs x and y stand at 0 and 4, a at 8, b at 14, x of the library at 32.
CODE_ENDS = 38


class OffsetsTest(unittest.TestCase):
    def test_code(self):
        for needs in (NEEDS, NEEDS[::-1], tuple(NEEDS + NEEDS)):
            layout = Layout(BOOK, needs)
            self.assertEqual([layout.stub_offset("x"), layout.stub_offset(name="y")], [0, 4])
            self.assertEqual(layout.piece_offset(("o", "", "a")), 8)
            self.assertEqual([layout.row_offset(("o", "", "a", row)) for row in range(4)], [8, 10, 11, 13])
            self.assertEqual(layout.piece_offset(key=("o", "", "b")), 14)
            self.assertEqual([layout.row_offset(("o", "", "b", row)) for row in range(2)], [14, 15])
            self.assertEqual(layout.piece_offset(("l", "m", "x")), 32)
            self.assertEqual(layout.row_offset(place=("l", "m", "x", 1)), 37)
            self.assertEqual(layout.code_length, CODE_ENDS)

    def test_data_for_each_page(self):
        for page, begin in ((16, 48), (32, 64), (64, 64)):
            layout = Layout(BOOK, NEEDS, page=page)
            self.assertEqual(layout.page, page)
            self.assertEqual(layout.code_length, CODE_ENDS)
            self.assertEqual(layout.data_offset, begin)
            self.assertEqual([layout.slot_offset("x"), layout.slot_offset(name="y")], [begin, begin + 1])
            self.assertEqual(layout.piece_offset(("o", "", "d")), begin + 4)
            self.assertEqual([layout.row_offset(("o", "", "d", row)) for row in range(3)], [begin + at for at in (4, 5, 8)])
            self.assertEqual(layout.piece_offset(("o", "", "e")), begin + 16)
            self.assertEqual(layout.piece_offset(("o", "", "f")), begin + 16)
            self.assertEqual(layout.piece_offset(("o", "", "g")), begin + 24)
            self.assertEqual(layout.size, begin + 17)

    def test_defaults_and_names(self):
        self.assertEqual(Layout(BOOK, NEEDS).page, 16)
        self.assertEqual(Layout(book=BOOK, needs=NEEDS, page=32).data_offset, 64)

    def test_code_that_ends_at_a_page(self):
        book = book_of("object o; code a 1 local; room 15; halt; code b 1 local; room 16; halt; end")
        for needs, length, begin in ((live("a"), 16, 16), (live("b"), 17, 32), (live("a", "b"), 33, 48), ([], 0, 0)):
            layout = Layout(book, needs)
            self.assertEqual([layout.code_length, layout.data_offset, layout.size], [length, begin, begin])

    def test_nothing(self):
        for layout in (Layout(Book(), []), Layout(BOOK, ()), Layout(BOOK, [("drawn", "l", "m")], page=64)):
            self.assertEqual([layout.code_length, layout.data_offset, layout.size], [0, 0, 0])
            self.assertIsNone(layout.place_at(0))
            self.assertIsNone(layout.stub_at(0))

    def test_only_stubs_or_only_data(self):
        layout = Layout(BOOK, [("stub", "x"), ("stub", "a")])
        self.assertEqual([layout.stub_offset("a"), layout.stub_offset("x"), layout.code_length], [0, 4, 8])
        self.assertEqual([layout.slot_offset("a"), layout.slot_offset("x"), layout.size], [16, 17, 18])
        layout = Layout(BOOK, live("d"))
        self.assertEqual([layout.data_offset, layout.piece_offset(("o", "", "d")), layout.size], [0, 0, 5])

    def test_empty_data_pieces_do_not_make_it_longer(self):
        layout = Layout(BOOK, live("a", "g") + [("stub", "x")])
        # Stub, a with a short name: 4 cells and, from 8 on, 5.
        self.assertEqual([layout.code_length, layout.slot_offset("x")], [13, 16])
        self.assertEqual([layout.piece_offset(("o", "", "g")), layout.size], [24, 17])
        layout = Layout(BOOK, live("a", "e"))
        self.assertEqual([layout.piece_offset(("o", "", "e")), layout.size], [16, 16])

    def test_sets_that_are_not_closed(self):
        layout = Layout(BOOK, live("b") + [("long", "o", "", "a", 1)])
        self.assertEqual([layout.piece_offset(("o", "", "b")), layout.code_length, layout.size], [0, 2, 16])
        layout = Layout(BOOK, live("a") + [("long", "o", "", "a", 1)])
        self.assertEqual([layout.row_offset(("o", "", "a", row)) for row in range(4)], [0, 2, 5, 6])


class CellsTest(unittest.TestCase):
    def test_each_offset(self):
        layout = Layout(BOOK, NEEDS)
        rows = {8: 2, 10: 1, 11: 2, 13: 1}
        told = {}
        for row, (first, many) in enumerate(rows.items()):
            told.update({first + at: ("o", "", "a", row) for at in range(many)})
        told.update({14: ("o", "", "b", 0), 15: ("o", "", "b", 1), 16: ("o", "", "b", 1), 17: ("o", "", "b", 1)})
        told.update({32 + at: ("l", "m", "x", 0) for at in range(5)})
        told.update({37: ("l", "m", "x", 1), 52: ("o", "", "d", 0), 56: ("o", "", "d", 2), 64: ("o", "", "f", 0)})
        told.update({53 + at: ("o", "", "d", 1) for at in range(3)})
        for offset in range(-2, 80):
            self.assertEqual(layout.place_at(offset), told.get(offset), offset)
            self.assertEqual(layout.stub_at(offset), {0: "x", 1: "y"}.get(offset // 4), offset)
        self.assertEqual(layout.place_at(offset=8), ("o", "", "a", 0))
        self.assertEqual(layout.stub_at(offset=8), None)

    def test_a_unit_that_is_called_stub(self):
        book = book_of("object stub; code stub 1 export; halt; end")
        layout = Layout(book, [("live", "stub", "", "stub"), ("stub", "stub")])
        self.assertEqual([layout.stub_at(3), layout.place_at(3)], ["stub", None])
        self.assertEqual([layout.stub_at(4), layout.place_at(4)], [None, ("stub", "", "stub", 0)])

    def test_values_of_other_kinds(self):
        layout = Layout(BOOK, NEEDS)
        for value in all_odd_values() + ["0", [0], (0,), ("o", "", "a", 0), 65, 1000, BOOK]:
            self.assertIsNone(layout.place_at(value))
            self.assertIsNone(layout.stub_at(value))


class ErrorsTest(unittest.TestCase):
    LAYOUT = Layout(BOOK, [need for need in NEEDS if need not in live("b", "f") + [("stub", "y")]])

    def test_unknown_pieces(self):
        others = [("o", "", "b"), ("o", "", "f"), ("o", "", "q"), ["o", "", "a"], ("o", "", "a", 0), ("l", "", "x")]
        others += [("live", "o", "", "a"), ("o", "", ["a"]), ("o", None, "a"), "a", ("stub", "x"), ("x",)]
        for value in all_odd_values() + others:
            self.assertIs(raised(self, UnknownPiece, self.LAYOUT.piece_offset, value).key, value)

    def test_unknown_places(self):
        others = [("o", "", "b", 0), ("o", "", "f", 0), ("o", "", "a", 4), ("o", "", "a", -1), ("o", "", "a", True)]
        others += [("o", "", "a", "0"), ("o", "", "a", [0]), ["o", "", "a", 0], ("o", "", "a"), ("stub", "x")]
        others += [("o", "", "e", 0), ("o", [], "a", 0), ("o", "", "a", 0, 0), "a", 8]
        for value in all_odd_values() + others:
            self.assertIs(raised(self, UnknownPlace, self.LAYOUT.row_offset, value).spot, value)

    def test_unknown_stubs(self):
        for value in all_odd_values() + ["y", "a", "d", ["x"], ("x",), ("stub", "x"), 0]:
            self.assertIs(raised(self, UnknownStub, self.LAYOUT.stub_offset, value).name, value)
            self.assertIs(raised(self, UnknownStub, self.LAYOUT.slot_offset, value).name, value)

    def test_invalid_needs(self):
        for value in (None, True, 3, "live", BOOK, {}):
            self.assertEqual(raised(self, InvalidNeed, Layout, BOOK, value).at, -1)
        for value in all_odd_values() + [list(NEEDS[0]), ("live", "o", "", "q"), ("stub", "q"), ("long", "o", "", "a", True)]:
            self.assertEqual(raised(self, InvalidNeed, Layout, BOOK, NEEDS[:2] + [value, value]).at, 2)

    def test_invalid_pages(self):
        for value in all_odd_values() + [0, 1, 8, 15, 17, 24, 48, 63, 65, 128, "16", [16], (16,)]:
            self.assertIs(raised(self, InvalidPage, Layout, BOOK, NEEDS, page=value).value, value)
            # The needs are checked ahead of the page.
            self.assertEqual(raised(self, InvalidNeed, Layout, BOOK, [None], page=value).at, 0)


class ModelTest(unittest.TestCase):
    def check(self, book, needs, page):
        layout = Layout(book, needs, page=page)
        stubs, slots, pieces, rows, lengths = models.offsets(book, needs, page)
        self.assertEqual((layout.code_length, layout.data_offset, layout.size), lengths)
        self.assertEqual({name: layout.stub_offset(name) for name in stubs}, stubs)
        self.assertEqual({name: layout.slot_offset(name) for name in slots}, slots)
        self.assertEqual({key: layout.piece_offset(key) for key in pieces}, pieces)
        self.assertEqual({place: layout.row_offset(place) for place in rows}, rows)
        for offset in range(lengths[2]):
            place, stub = layout.place_at(offset), layout.stub_at(offset)
            self.assertTrue(place is None or stub is None)
            if place is not None:
                row = book.piece(place[:3]).rows()[place[3]]
                self.assertIn(offset - rows[place], range(models.size(row, ("long", *place) in needs)))
            if stub is not None:
                self.assertIn(offset - stubs[stub], range(4))
        covered = sum(models.size(book.piece(place[:3]).rows()[place[3]], ("long", *place) in needs) for place in rows)
        told = [offset for offset in range(lengths[2]) if layout.place_at(offset) is not None]
        self.assertEqual(len(told), covered)

    def test_many_books(self):
        for at in range(150):
            chance = random.Random(at)
            book = models.random_book(chance, "abcdefgh"[: chance.randint(2, 8)], 4)
            needs = models.all_needs(book)
            self.check(book, chance.sample(needs, chance.randint(0, len(needs))), chance.choice([16, 32, 64]))
            self.check(book, needs_of(book, models.random_roots(chance, book), reach=8), chance.choice([16, 32, 64]))


if __name__ == "__main__":
    unittest.main()

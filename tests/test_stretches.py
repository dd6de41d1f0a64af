"""The order of the code and the stretches: points [14] and [15], leastimage/stretches.py."""

import unittest

from leastimage.errors import InvalidNumber, UnknownPlace
from leastimage.stretches import greatest_stretch, laid, points, stretch

from common import all_odd_values, book_of, raised

EXAMPLE = book_of("object o; code a 1 export; jump c; code b 8 local keep; halt; code c 1 local; halt; end")
JUMP = ("o", "", "a", 0)


def live(*names, unit="o", member=""):
    return [("live", unit, member, name) for name in names]


def long(name, *rows):
    return [("long", "o", "", name, row) for row in rows]


def stubs(*names):
    return [("stub", name) for name in names]


def stretches(book, needs, place):
    return [stretch(book, needs, place, start) for start in range(16)]


class ExampleTest(unittest.TestCase):
    def test_each_start(self):
        needs = live("a", "b", "c")
        # From the start t the point of b is put at the multiple of 8 above t.
        told = [(start // 8 + 1) * 8 + 1 - start for start in range(16)]
        self.assertEqual(told[:8], [9, 8, 7, 6, 5, 4, 3, 2])
        self.assertEqual(stretches(EXAMPLE, needs, JUMP), told)
        self.assertEqual(greatest_stretch(EXAMPLE, needs, JUMP), (9, 0))

    def test_needs_in_any_order_and_twice(self):
        for needs in (live("c", "b", "a"), tuple(live("b", "a", "b", "c", "a"))):
            self.assertEqual(greatest_stretch(EXAMPLE, needs, JUMP), (9, 0))
            self.assertEqual(points(EXAMPLE, needs), [("o", "", name, 0) for name in "abc"])
        needs = live("c", "c", "b")
        points(EXAMPLE, needs).clear()
        self.assertEqual(needs, live("c", "c", "b"))

    def test_a_piece_between_that_is_not_live(self):
        self.assertEqual(greatest_stretch(EXAMPLE, live("a", "c"), JUMP), (1, 0))
        self.assertEqual(greatest_stretch(EXAMPLE, live("a", "c") + long("a", 0), JUMP), (3, 0))

    def test_by_name(self):
        needs = live("a", "b", "c")
        self.assertEqual(stretch(book=EXAMPLE, needs=needs, place=JUMP, start=7), 2)
        self.assertEqual(greatest_stretch(book=EXAMPLE, needs=needs, place=JUMP), (9, 0))
        self.assertEqual(laid(book=EXAMPLE, needs=needs, lower=JUMP, higher=("o", "", "b", 0), start=3), 5)
        self.assertEqual(points(book=EXAMPLE, needs=live("b")), [("o", "", "b", 0)])


class PointsTest(unittest.TestCase):
    def test_order(self):
        book = book_of(
            "archive l; object m; code d 4 export; out r0; room 3; halt; code c 1 local; halt; end; end;",
            "object o; outside z; outside y; code b 1 local; call y; jump z; data a 1 local; word 1; end",
        )
        needs = stubs("z", "y") + live("b", "a") + live("c", "d", unit="l", member="m")
        told = [("stub", "y"), ("stub", "z")]
        told += [("l", "m", "d", 0), ("l", "m", "d", 1), ("l", "m", "d", 2), ("l", "m", "c", 0)]
        told += [("o", "", "b", 0), ("o", "", "b", 1)]
        self.assertEqual(points(book, needs), told)
        # Drawn and long needs, and those of pieces that are not live, mean nothing.
        self.assertEqual(points(book, [("drawn", "l", "m")] + long("b", 0, 1)), [])
        self.assertEqual(points(book, needs[:2] + long("b", 0)), told[:2])
        self.assertEqual(points(book, live("a", "b")), told[6:])
        self.assertEqual(points(book, []), [])

    def test_a_new_list(self):
        points(EXAMPLE, live("a")).clear()
        self.assertEqual(points(EXAMPLE, live("a")), [JUMP])


class LaidTest(unittest.TestCase):
    BOOK = book_of(
        "object o; outside x; outside y; outside z; code a 8 export; call x; room 5; put r0 1; jump d; code b 4 local;",
        "ifzero r0 a; name r1 d; halt; code c 16 local; jump z; code d 2 local; call y; out r0; jump b; end",
    )
    NEEDS = stubs("x", "y", "z") + live("a", "b", "c", "d")

    def test_all_pairs_from_the_start_0(self):
        # With no alignment ahead of a, the whole code is laid from 0 on.
        offsets = [0, 4, 8, 16, 17, 22, 24, 28, 29, 30, 32, 34, 35, 36]
        order = points(self.BOOK, self.NEEDS)
        self.assertEqual(len(order), len(offsets))
        for point, offset in zip(order, offsets):
            self.assertEqual(laid(self.BOOK, self.NEEDS, ("stub", "x"), point, 0), offset)
        for point, offset in zip(order[3:], offsets[3:]):
            self.assertEqual(laid(self.BOOK, self.NEEDS, ("o", "", "a", 0), point, 0), offset - 16)

    def test_long_forms(self):
        needs = self.NEEDS + long("a", 0, 3) + long("b", 0, 1) + long("c", 0) + long("d", 0, 2)
        offsets = [0, 4, 8, 16, 19, 24, 26, 32, 37, 39, 48, 52, 55, 56]
        for point, offset in zip(points(self.BOOK, needs), offsets):
            self.assertEqual(laid(self.BOOK, needs, ("stub", "x"), point, 0), offset)

    def test_the_alignment_at_the_lower_point_does_not_count(self):
        for start in range(16):
            self.assertEqual(laid(self.BOOK, self.NEEDS, ("o", "", "c", 0), ("o", "", "c", 0), start), 0)
            told = laid(self.BOOK, self.NEEDS, ("o", "", "c", 0), ("o", "", "d", 1), start)
            self.assertEqual(told, (start + 1 + 1) // 2 * 2 + 1 - start)
            told = laid(self.BOOK, self.NEEDS, ("o", "", "a", 1), ("o", "", "a", 3), start)
            self.assertEqual(told, 7)
            told = laid(self.BOOK, self.NEEDS, ("stub", "y"), ("o", "", "a", 1), start)
            self.assertEqual(told, (start + 8 + 7) // 8 * 8 + 1 - start)

    def test_from_the_middle_of_a_piece(self):
        for start in range(16):
            b = (start + 3 + 3) // 4 * 4
            self.assertEqual(laid(self.BOOK, self.NEEDS, ("o", "", "a", 2), ("o", "", "b", 2), start), b + 2 - start)
            c = (b + 3 + 15) // 16 * 16
            self.assertEqual(laid(self.BOOK, self.NEEDS, ("o", "", "a", 2), ("o", "", "c", 0), start), c - start)


class StretchTest(unittest.TestCase):
    def test_references_to_their_own_piece(self):
        book = book_of("object o; code a 16 local; jump a; room 3; call a; put r0 1; ifzero r0 a; halt; end")
        for row, many in ((0, 0), (2, 4), (4, 7)):
            place = ("o", "", "a", row)
            self.assertEqual(stretches(book, live("a"), place), [many] * 16)
            self.assertEqual(greatest_stretch(book, live("a"), place), (many, 0))
            grown = live("a") + long("a", 0, 2, 4)
            more = {0: 0, 2: 2, 4: 4}[row]
            self.assertEqual(greatest_stretch(book, grown, place), (many + more, 0))

    def test_forwards_and_backwards(self):
        book = book_of(
            "object o; code a 4 local; out r0; jump c; call b; halt; code b 4 local; room 2; halt; code c 8 local;",
            "out r0; name r0 a; out r0; call b; halt; end",
        )
        needs = live("a", "b", "c")
        forwards = stretches(book, needs, ("o", "", "a", 1))
        self.assertEqual(forwards, [((t + 3 + 3) // 4 * 4 + 3 + 7) // 8 * 8 - t for t in range(16)])
        backwards = stretches(book, needs, ("o", "", "c", 3))
        self.assertEqual(backwards, [(t + 3 + 7) // 8 * 8 + 3 - t for t in range(16)])
        self.assertEqual(stretches(book, needs, ("o", "", "a", 2))[:4], [4, 3, 2, 5])
        self.assertEqual(greatest_stretch(book, needs, ("o", "", "a", 1)), (14, 2))
        self.assertEqual(greatest_stretch(book, needs, ("o", "", "c", 1)), (16, 1))
        self.assertEqual(greatest_stretch(book, needs, ("o", "", "c", 3)), (13, 6))

    def test_to_a_stub(self):
        book = book_of("object o; outside x; outside y; code a 16 local; out r0; call x; call y; halt; end")
        needs = live("a") + stubs("x", "y")
        self.assertEqual(stretches(book, needs, ("o", "", "a", 1)), [(t + 8 + 15) // 16 * 16 + 1 - t for t in range(16)])
        self.assertEqual(stretches(book, needs, ("o", "", "a", 2)), [(t + 4 + 15) // 16 * 16 + 2 - t for t in range(16)])
        self.assertEqual(greatest_stretch(book, needs, ("o", "", "a", 1)), (24, 9))
        self.assertEqual(greatest_stretch(book, live("a") + stubs("x"), ("o", "", "a", 1)), (20, 13))

    def test_rooms_between(self):
        book = book_of("object o; code a 1 local; jump c; code b 1 local; room 120; room 1; halt; code c 1 local; halt; end")
        self.assertEqual(greatest_stretch(book, live("a", "b", "c"), ("o", "", "a", 0)), (123, 0))

    def test_data_between_does_not_count(self):
        book = book_of("object o; code a 1 local; jump c; data b 16 local; room 120; code c 1 local; halt; end")
        self.assertEqual(greatest_stretch(book, live("a", "b", "c"), ("o", "", "a", 0)), (1, 0))

    def test_unknown_places(self):
        book = book_of(
            "object o; outside x; code a 1 local; put r0 1; jump b; call x; name r0 d; jump d; call gone; jump a;",
            "code b 1 local; halt; data d 1 local; address a; end",
        )
        needs = live("a", "d")
        others = [("o", "", "a", row) for row in (-1, 0, 1, 2, 3, 4, 5, 7, 60)]
        others += [("o", "", "a", True), ("o", "", "d", 0), ("o", "", "b", 0), ("o", "", "c", 0), ("o", "", "a")]
        others += [["o", "", "a", 6], ("stub", "x"), ("o", "", "a", [6]), ("o", [], "a", 6), "a", ("o", "", "a", "6")]
        for value in all_odd_values() + others:
            self.assertIs(raised(self, UnknownPlace, greatest_stretch, book, needs, value).spot, value)
            self.assertIs(raised(self, UnknownPlace, stretch, book, needs, value, 0).spot, value)
            # The place is checked ahead of the start.
            self.assertIs(raised(self, UnknownPlace, stretch, book, needs, value, 16).spot, value)
        self.assertEqual(greatest_stretch(book, needs, ("o", "", "a", 6)), (7, 0))
        self.assertEqual(greatest_stretch(book, needs + live("b"), ("o", "", "a", 1)), (6, 0))
        self.assertEqual(greatest_stretch(book, needs + stubs("x"), ("o", "", "a", 2)), (7, 0))
        raised(self, UnknownPlace, greatest_stretch, book, stubs("x") + live("b", "d"), ("o", "", "a", 2))
        raised(self, UnknownPlace, stretch, book, live("b") + long("a", 1), ("o", "", "a", 1), 0)

    def test_long_references_have_stretches_too(self):
        needs = live("a", "b", "c") + long("a", 0)
        self.assertEqual(stretches(EXAMPLE, needs, JUMP)[:8], [9, 8, 7, 6, 5, 4, 11, 10])
        self.assertEqual(greatest_stretch(EXAMPLE, needs, JUMP), (11, 6))

    def test_wrong_starts(self):
        for value in all_odd_values() + [16, 17, 100, "0", [0], (0,)]:
            error = raised(self, InvalidNumber, stretch, EXAMPLE, live("a", "b", "c"), JUMP, value)
            self.assertIs(error.value, value)


if __name__ == "__main__":
    unittest.main()

"""Needs, roots and reaches: points [13] and [16], leastimage/needs.py."""

import unittest

from leastimage.books import Book
from leastimage.errors import InvalidNeed, InvalidReach, InvalidRoots
from leastimage.needs import (
    check_needs,
    check_reach,
    check_roots,
    is_long,
    is_need,
    live_pieces,
    stub_names,
)

import models
from common import all_odd_values, book_of, raised

BOOK = book_of(
    "object main; outside far; code main 1 export; put r0 1; name r0 list; jump main; ifzero r0 side;",
    "call far; load r0 r0 0; jump gone; data list 1 local; address main; word 3; code side 1 local; halt; end;",
    "archive lib; object one; code far 1 export; call far; halt; end; object two; end; end;",
    "archive void; end; object bare; outside only; end",
)
NEEDS = [
    ("drawn", "lib", "one"),
    ("drawn", "lib", "two"),
    ("live", "lib", "one", "far"),
    ("live", "main", "", "list"),
    ("live", "main", "", "main"),
    ("live", "main", "", "side"),
    ("long", "lib", "one", "far", 0),
    ("long", "main", "", "main", 1),
    ("long", "main", "", "main", 2),
    ("long", "main", "", "main", 3),
    ("long", "main", "", "main", 4),
    ("long", "main", "", "main", 6),
    ("stub", "far"),
    ("stub", "gone"),
    ("stub", "list"),
    ("stub", "main"),
    ("stub", "only"),
    ("stub", "side"),
]
NO_NEEDS = [
    "live",
    ("live",),
    ("live", "main", "main"),
    ("live", "main", "", "far"),
    ("live", "main", "", "only"),
    ("live", "lib", "", "far"),
    ("live", "lib", "two", "far"),
    ("live", "main", "", "main", 0),
    ("live", "main", None, "main"),
    ("live", "main", [], "main"),
    ["live", "main", "", "main"],
    ("Live", "main", "", "main"),
    ("alive", "main", "", "main"),
    (("live",), "main", "", "main"),
    (["live"], "main", "", "main"),
    (None, "main", "", "main"),
    ("main", "", "main"),
    ("drawn",),
    ("drawn", "lib"),
    ("drawn", "lib", ""),
    ("drawn", "lib", "main"),
    ("drawn", "main", ""),
    ("drawn", "main", "main"),
    ("drawn", "void", "one"),
    ("drawn", "lib", "one", "far"),
    ("drawn", "lib", ["one"]),
    ["drawn", "lib", "one"],
    ("stub",),
    ("stub", "lib"),
    ("stub", "one"),
    ("stub", "bare"),
    ("stub", ""),
    ("stub", "far", "far"),
    ("stub", ("far",)),
    ("stub", ["far"]),
    ("stub", None),
    ["stub", "far"],
    ("long",),
    ("long", "main", "", "main"),
    ("long", "main", "", "main", 0),
    ("long", "main", "", "main", 5),
    ("long", "main", "", "main", 7),
    ("long", "main", "", "main", -1),
    ("long", "main", "", "main", True),
    ("long", "lib", "one", "far", False),
    ("long", "main", "", "main", "1"),
    ("long", "main", "", "main", None),
    ("long", "main", "", "main", [1]),
    ("long", "main", "", "list", 0),
    ("long", "main", "", "side", 0),
    ("long", "main", "", "main", 1, 1),
    ["long", "main", "", "main", 1],
    ("long", ("main", "", "main", 1)),
    ("long", "stub", "far"),
    ("none", "gone"),
    ("piece", "main", "", "main"),
]


class IsNeedTest(unittest.TestCase):
    def test_each_kind(self):
        self.assertEqual(models.all_needs(BOOK), NEEDS)
        for need in NEEDS:
            self.assertIs(is_need(BOOK, need), True)
            self.assertIs(is_need(Book(), need), False)
        self.assertIs(is_need(book=BOOK, value=NEEDS[0]), True)

    def test_values_near_them(self):
        for value in NO_NEEDS + all_odd_values() + [BOOK, (BOOK,), ("live", BOOK, "", "main"), ("stub", BOOK)]:
            self.assertIs(is_need(BOOK, value), False, value)


class CheckNeedsTest(unittest.TestCase):
    def test_right_lists(self):
        for needs in ([], (), NEEDS, tuple(NEEDS), NEEDS[::-1], NEEDS + NEEDS):
            self.assertIsNone(check_needs(BOOK, needs))
        self.assertIsNone(check_needs(book=BOOK, needs=NEEDS))

    def test_no_list(self):
        for value in (None, True, 3, "", "live", BOOK, {}, {NEEDS[0]: True}, set(NEEDS)):
            self.assertEqual(raised(self, InvalidNeed, check_needs, BOOK, value).at, -1)

    def test_the_first_wrong_item(self):
        for value in NO_NEEDS + all_odd_values():
            self.assertEqual(raised(self, InvalidNeed, check_needs, BOOK, [value]).at, 0)
            needs = (NEEDS[0], NEEDS[0], value, NEEDS[1], None, value)
            self.assertEqual(raised(self, InvalidNeed, check_needs, BOOK, needs).at, 2)

    def test_a_need_is_no_list_of_needs(self):
        self.assertEqual(raised(self, InvalidNeed, check_needs, BOOK, NEEDS[0]).at, 0)


class CheckRootsTest(unittest.TestCase):
    def test_right_roots(self):
        for roots in (["main"], ("a",), ["a", "b", "c", "d"], ("zzzzzz", "a"), ["d", "a"]):
            self.assertIsNone(check_roots(roots))
        self.assertIsNone(check_roots(roots=["main"]))

    def test_wrong_roots(self):
        for value in all_odd_values() + [
            "main",
            "a",
            [],
            (),
            ["a", "b", "c", "d", "e"],
            ["a", "a"],
            ("a", "b", "a"),
            ["a", None],
            ["a", "B"],
            ["abcdefg"],
            [""],
            [["a"]],
            [("a",)],
            [True],
            {"a": True},
            BOOK,
        ]:
            if value != ["halt"] and value != ("halt",):
                raised(self, InvalidRoots, check_roots, value)


class CheckReachTest(unittest.TestCase):
    def test_bounds(self):
        for reach in (4, 5, 40, 99, 100):
            self.assertIsNone(check_reach(reach))
        self.assertIsNone(check_reach(reach=40))
        for value in all_odd_values() + [3, 101, 0, -4, 1000, "40", [40], (40,)]:
            self.assertIs(raised(self, InvalidReach, check_reach, value).value, value)


class SetTest(unittest.TestCase):
    def test_live_pieces(self):
        keys = [("main", "", "main"), ("main", "", "list"), ("main", "", "side"), ("lib", "one", "far")]
        for needs in (NEEDS, NEEDS[::-1], tuple(NEEDS + NEEDS)):
            self.assertEqual(live_pieces(BOOK, needs), keys)
        self.assertEqual(live_pieces(BOOK, []), [])
        self.assertEqual(live_pieces(BOOK, NEEDS[:2] + NEEDS[6:]), [])
        self.assertEqual(live_pieces(BOOK, [NEEDS[2], NEEDS[3], NEEDS[2]]), [keys[1], keys[3]])
        self.assertEqual(live_pieces(book=BOOK, needs=[NEEDS[4]]), [keys[0]])

    def test_stub_names(self):
        names = ["far", "gone", "list", "main", "only", "side"]
        for needs in (NEEDS, NEEDS[::-1], tuple(NEEDS + NEEDS)):
            self.assertEqual(stub_names(needs), names)
        self.assertEqual(stub_names([]), [])
        self.assertEqual(stub_names(needs=NEEDS[:12]), [])

    def test_is_long(self):
        for needs in (NEEDS, NEEDS[::-1], tuple(NEEDS + NEEDS)):
            self.assertIs(is_long(needs, ("main", "", "main", 3)), True)
            self.assertIs(is_long(needs, ("main", "", "main", 0)), False)
        self.assertIs(is_long([], ("main", "", "main", 3)), False)
        self.assertIs(is_long(NEEDS[:9], ("main", "", "main", 3)), False)
        self.assertIs(is_long(needs=NEEDS, place=("lib", "one", "far", 0)), True)

    def test_needs_are_not_changed(self):
        needs = NEEDS[::-1] + NEEDS
        check_needs(BOOK, needs)
        live_pieces(BOOK, needs).clear()
        stub_names(needs).clear()
        is_long(needs, ("main", "", "main", 3))
        self.assertEqual(needs, NEEDS[::-1] + NEEDS)


if __name__ == "__main__":
    unittest.main()

"""Closed and judged sets: points [17] and [27], leastimage/judging.py."""

import unittest

from leastimage.chains import is_step
from leastimage.closure import needs_of
from leastimage.errors import InvalidNeed, InvalidReach, InvalidRoots
from leastimage.judging import is_closed, judge, missing_step

from common import all_odd_values, book_of, raised

BOOK = book_of(
    "object o; outside x; code a 1 export; call b; call x; name r0 d; halt; code b 1 local keep; room 20; jump a;",
    "data d 1 local; word 1; code s 1 export; jump t; code t 1 local; back; end;",
    "archive l; object m; code x 1 export; back; code k 1 local keep; back; end; object n; data y 1 weak; end; end",
)
LEAST = needs_of(BOOK, ["a"], reach=20)
# The rules that give the needs of the book, and what is not needed.
RULES = {
    ("live", "o", "", "a"): {"root", "reference"},
    ("live", "o", "", "b"): {"keep", "reference"},
    ("live", "o", "", "d"): {"reference"},
    ("live", "l", "m", "x"): {"reference"},
    ("live", "l", "m", "k"): {"keep"},
    ("drawn", "l", "m"): {"drawn"},
    ("stub", "x"): {"stub"},
    ("long", "o", "", "a", 2): {"data"},
    ("long", "o", "", "b", 1): {"far"},
    ("long", "o", "", "a", 1): {"far"},
}


class SetsTest(unittest.TestCase):
    def check_open(self, needs, roots=("a",), reach=20):
        step = missing_step(BOOK, roots, needs, reach=reach)
        self.assertTrue(is_step(BOOK, roots, step, reach=reach), step)
        self.assertNotIn(step[0], needs)
        self.assertTrue(set(step[2]) <= set(needs))
        self.assertIs(is_closed(BOOK, roots, needs, reach=reach), False)
        kind, told = judge(BOOK, roots, needs, reach=reach)
        self.assertEqual(kind, "open")
        self.assertTrue(is_step(BOOK, roots, told, reach=reach), told)
        self.assertNotIn(told[0], needs)
        self.assertTrue(set(told[2]) <= set(needs))
        return step

    def check_closed(self, needs, told, roots=("a",), reach=20):
        self.assertIsNone(missing_step(BOOK, roots, needs, reach=reach))
        self.assertIs(is_closed(BOOK, roots, needs, reach=reach), True)
        self.assertEqual(judge(BOOK, roots, needs, reach=reach), told)

    def test_the_least_set(self):
        self.assertEqual(LEAST, sorted([need for need in RULES if need != ("long", "o", "", "a", 1)]))
        self.check_closed(LEAST, ("least", None))
        self.check_closed(tuple(LEAST[::-1]), ("least", None))
        self.check_closed(LEAST + LEAST, ("least", None))
        self.check_closed([("live", "o", "", "b"), ("live", "o", "", "a")] + LEAST, ("least", None))

    def test_the_empty_set(self):
        self.assertIn(self.check_open([])[1], ("root", "keep"))
        book = book_of("object o; code a 1 export; halt; end")
        self.assertIsNone(missing_step(book, ["b"], []))
        self.assertEqual(judge(book, ["b"], []), ("least", None))
        self.assertEqual(judge(book, ["a"], []), ("open", (("live", "o", "", "a"), "root", (), None)))

    def test_one_need_left_out_for_each_rule(self):
        for need in LEAST:
            step = self.check_open([other for other in LEAST if other != need])
            self.assertEqual(step[0], need)
            self.assertIn(step[1], RULES[need])

    def test_forms_that_are_long_at_smaller_reaches(self):
        # From the stub to the call of x there are 5 cells.
        self.check_open(LEAST, reach=4)
        self.check_closed(LEAST, ("least", None), reach=5)
        # Two forms that hold each other up: with one of them the other one is far.
        longs = [("long", "o", "", "a", 1), ("long", "o", "", "a", 0)]
        self.check_closed(LEAST + longs, ("needless", longs[1]), reach=5)
        self.check_open(LEAST + longs[:1], reach=5)
        self.check_open(LEAST + longs[1:], reach=5)

    def test_needless_needs(self):
        self.check_closed(LEAST + [("live", "o", "", "t")], ("needless", ("live", "o", "", "t")))
        self.check_closed(LEAST + [("long", "o", "", "s", 0)], ("needless", ("long", "o", "", "s", 0)))
        self.check_closed([("drawn", "l", "n")] + LEAST, ("needless", ("drawn", "l", "n")))
        both = [("live", "o", "", "t"), ("live", "o", "", "s")]
        self.check_closed(both + LEAST + both, ("needless", ("live", "o", "", "s")))
        all_of = LEAST + both + [("drawn", "l", "n"), ("live", "l", "n", "y"), ("long", "o", "", "s", 0)]
        self.check_closed(all_of, ("needless", ("drawn", "l", "n")))

    def test_needless_needs_that_need_others(self):
        step = self.check_open(LEAST + [("live", "o", "", "s")])
        self.assertEqual(step, (("live", "o", "", "t"), "reference", (("live", "o", "", "s"),), 0))
        step = self.check_open(LEAST + [("live", "l", "n", "y")])
        self.assertEqual(step, (("drawn", "l", "n"), "drawn", (("live", "l", "n", "y"),), None))
        # A second stub makes the way to the first one longer.
        step = self.check_open(LEAST + [("stub", "y")], reach=8)
        self.assertEqual(step[:2], (("long", "o", "", "a", 1), "far"))

    def test_other_roots_and_reaches(self):
        self.check_open(LEAST, roots=["a", "s"])
        self.check_closed(LEAST, ("needless", ("long", "o", "", "b", 1)), reach=100)
        self.check_closed(LEAST, ("least", None), roots=["nobody", "a"])

    def test_defaults_and_names(self):
        book = book_of("object o; code a 1 export; room 39; out r0; out r0; jump a; end")
        live, long = ("live", "o", "", "a"), ("long", "o", "", "a", 3)
        step = (long, "far", (live,), 0)
        self.assertEqual(missing_step(book=book, roots=["a"], needs=[live]), step)
        self.assertEqual(judge(book=book, roots=["a"], needs=[live]), ("open", step))
        self.assertIs(is_closed(book=book, roots=["a"], needs=[live]), False)
        self.assertIs(is_closed(book, ["a"], [live], reach=41), True)
        self.assertEqual(judge(book, ["a"], [long, live]), ("least", None))
        self.assertEqual(judge(book, ["a"], [long, live], reach=41), ("needless", long))

    def test_needs_are_not_changed(self):
        needs = LEAST[::-1] + LEAST
        judge(BOOK, ["a"], needs, reach=20)
        self.assertEqual(needs, LEAST[::-1] + LEAST)


class ErrorsTest(unittest.TestCase):
    def test_errors_in_their_order(self):
        for call in (missing_step, is_closed, judge):
            for roots in ([], ["a", "a"], "a", None, ["A"], [None], True):
                raised(self, InvalidRoots, call, BOOK, roots, None, reach=3)
                raised(self, InvalidRoots, call, BOOK, roots, LEAST)
            for reach in (3, 101, None, True, "40", [40]):
                self.assertIs(raised(self, InvalidReach, call, BOOK, ["a"], None, reach=reach).value, reach)
            for value in (None, True, "live", 3, BOOK, {}):
                self.assertEqual(raised(self, InvalidNeed, call, BOOK, ["a"], value).at, -1)
            for value in all_odd_values() + [list(LEAST[0]), ("live", "o", "", "q"), ("long", "o", "", "b", True)]:
                self.assertEqual(raised(self, InvalidNeed, call, BOOK, ["a"], [value]).at, 0)
                needs = [LEAST[0], LEAST[0], value, value]
                self.assertEqual(raised(self, InvalidNeed, call, BOOK, ["a"], needs).at, 2)


if __name__ == "__main__":
    unittest.main()

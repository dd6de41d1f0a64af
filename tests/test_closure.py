"""The rules and the least set: points [16] and [17], leastimage/closure.py."""

import itertools
import unittest

from leastimage.books import Book
from leastimage.chains import is_chain, is_step
from leastimage.closure import Closure, needs_of
from leastimage.errors import InvalidReach, InvalidRoots, NotLarger, NotReady, UnknownNeed
from leastimage.objects import Object

from common import all_odd_values, book_of, code, raised


def live(*names, unit="o", member=""):
    return [("live", unit, member, name) for name in names]


def long(name, *rows, unit="o", member=""):
    return [("long", unit, member, name, row) for row in rows]


def stubs(*names):
    return [("stub", name) for name in names]


BOOK = book_of(
    "object o; outside x; code main 1 export; call f; call x; halt; code f 1 local; name r0 d; back;",
    "data d 1 local; word 1; end; archive l; object m; code x 1 export; call y; back; code k 1 local keep; back; end;",
    "object n; code y 1 export; room 60; back; code z 1 export; back; end; end",
)
# Which needs each need rests on, in an order in which they may come.
NEEDS = [
    ("live", "o", "", "main"),
    ("live", "o", "", "f"),
    ("live", "o", "", "d"),
    ("long", "o", "", "f", 0),
    ("stub", "x"),
    ("live", "l", "m", "x"),
    ("drawn", "l", "m"),
    ("live", "l", "m", "k"),
    ("live", "l", "n", "y"),
    ("drawn", "l", "n"),
]


def finished(book, roots, **more):
    closure = Closure(book, roots, **more)
    closure.finish()
    return closure


def state(closure):
    """All that a closure tells of itself."""
    walked = list(closure.walk())
    chains = [closure.chain(need) for need in closure.needs()]
    return [closure.roots(), closure.reach, closure.ready(), closure.finished, closure.needs(), walked, chains]


class RulesTest(unittest.TestCase):
    """Each rule alone: the needs of small books."""

    def check(self, text, roots, needs, reach=40):
        book = book_of(text)
        self.assertEqual(needs_of(book, roots, reach=reach), sorted(needs))
        closure = finished(book, roots, reach=reach)
        for step in closure.walk():
            self.assertTrue(is_step(book, roots, step, reach=reach), step)

    def test_root(self):
        two = "object o; code a 1 export; halt; code b 1 weak; halt; code c 1 local; halt; data d 1 export; end"
        self.check(two, ["a"], live("a"))
        self.check(two, ["b", "a"], live("a", "b"))
        self.check(two, ["d"], live("d"))

    def test_roots_without_an_answer(self):
        two = "object o; code a 1 export; halt; code c 1 local; halt; end"
        self.check(two, ["c"], [])
        self.check(two, ["x", "y", "a"], live("a"))
        self.check("", ["a"], [])

    def test_keep_in_objects(self):
        self.check("object o; code a 1 local keep; halt; data b 1 weak keep; code c 1 export; halt; end", ["x"], live("a", "b"))

    def test_keep_in_members(self):
        text = "archive l; object m; code a 1 export; halt; code b 1 local keep; halt; data c 1 local keep; end;"
        text = text + "object n; code d 1 export keep; halt; end; end"
        drawn = [("drawn", "l", "m")] + live("a", "b", "c", unit="l", member="m")
        self.check(text, ["a"], drawn)
        self.check(text, ["x"], [])
        self.check(text, ["d"], [("drawn", "l", "n")] + live("d", unit="l", member="n"))

    def test_a_kept_piece_alone_does_not_draw_its_member(self):
        self.check("archive l; object m; code a 1 local keep; halt; end; end", ["a"], [])

    def test_reference(self):
        text = "object o; code a 1 export; call b; call gone; halt; code b 1 local; call c; back; data c 1 local;"
        text = text + "address d; code d 1 local; back; code e 1 local; back; end"
        self.check(text, ["a"], live("a", "b", "c", "d"))
        self.check("object o; code a 1 export; call a; halt; end", ["a"], live("a"))

    def test_references_through_stubs(self):
        text = "object o; outside x; code a 1 export; call x; halt; end;"
        needs = live("a") + stubs("x")
        self.check(text, ["a"], needs)
        self.check(text + "object p; data x 1 export; address y; code y 1 local; halt; end", ["a"], needs)
        self.check(text + "object p; code x 1 weak; halt; end", ["a"], needs + live("x", unit="p"))
        text = "object o; data a 1 export; address x; end; object p; code x 1 open; halt; end"
        self.check(text, ["a"], needs + live("x", unit="p"))

    def test_drawn(self):
        text = "archive l; object m; data a 1 export; end; object n; code b 1 export; halt; end; end"
        self.check(text, ["a"], [("drawn", "l", "m")] + live("a", unit="l", member="m"))

    def test_data(self):
        text = "object o; code a 1 export; name r0 d; name r1 a; jump d; data d 1 local; address d; end"
        self.check(text, ["a"], live("a", "d") + long("a", 0))
        text = "object o; code a 1 export; name r0 d; halt; end; archive l; object m; data d 1 weak; end; end"
        self.check(text, ["a"], live("a") + long("a", 0) + [("drawn", "l", "m")] + live("d", unit="l", member="m"))

    def test_data_through_a_stub_is_not_for_the_rule_data(self):
        text = "object o; outside d; code a 1 export; name r0 d; halt; end; object p; data d 1 export; end"
        self.check(text, ["a"], live("a") + stubs("d"))

    def test_jumps_to_data_have_no_long_form(self):
        text = "object o; code a 1 export; ifzero r0 d; call d; room 100; jump d; data d 1 local; end"
        self.check(text, ["a"], live("a", "d"), reach=4)

    def test_far_within_a_piece(self):
        for reach in (4, 5, 50, 100):
            text = f"object o; code a 1 export; room {reach};"
            self.check(text + "jump a; end", ["a"], live("a"), reach=reach)
            self.check(text + "out r0; jump a; end", ["a"], live("a") + long("a", 2), reach=reach)

    def test_far_for_each_row_with_two_forms(self):
        rows = "name r0 a; jump a; ifzero r1 a; call a"
        text = f"object o; code a 1 export; room 8; {rows}; halt; end"
        self.check(text, ["a"], live("a") + long("a", 1, 2, 3, 4), reach=7)
        self.check(text, ["a"], live("a"), reach=11)

    def test_far_grows_over_long_forms(self):
        # Each form that turns long makes the next way too long.
        rows = "room 5; call a; out r0; call a; out r0; call a; jump a"
        text = f"object o; code a 1 export; {rows}; end"
        self.check(text, ["a"], live("a") + long("a", 3, 5, 6), reach=6)
        self.check(text, ["a"], live("a") + long("a", 5, 6), reach=7)
        self.check(text, ["a"], live("a") + long("a", 6), reach=9)
        self.check(text, ["a"], live("a"), reach=10)

    def test_far_to_a_stub(self):
        text = "object o; outside x; outside y; code a 16 export; out r0; call x; jump y; end"
        needs = live("a") + stubs("x", "y")
        # From the start 9 the stub x ends at 17, so a is put at 32.
        self.check(text, ["a"], needs, reach=24)
        self.check(text, ["a"], needs + long("a", 1), reach=23)
        self.check(text, ["a"], needs + long("a", 1, 2), reach=22)

    def test_far_over_alignments(self):
        text = "object o; code a 1 export; jump c; code b 8 local keep; halt; code c 1 local; halt; end"
        self.check(text, ["a"], live("a", "b", "c"), reach=9)
        self.check(text, ["a"], live("a", "b", "c") + long("a", 0), reach=8)

    def test_defaults(self):
        text = "object o; code a 1 export; room 39; out r0; {}; end"
        self.assertEqual(needs_of(book_of(text.replace("{}", "jump a")), ["a"]), live("a"))
        self.assertEqual(needs_of(book_of(text.replace("{}", "out r0; jump a")), ["a"]), live("a") + long("a", 3))
        self.assertEqual(Closure(Book(), ["a"]).reach, 40)

    def test_all_together(self):
        self.assertEqual(needs_of(BOOK, ["main"]), sorted(NEEDS))
        self.assertEqual(needs_of(book=BOOK, roots=("main",), reach=63), sorted(NEEDS))
        # The long way over the stub to main turns the one from main to f long, too.
        more = long("main", 0, 1) + live("z", unit="l", member="n")
        self.assertEqual(needs_of(BOOK, ["main", "z"], reach=4), sorted(NEEDS + more))


class GrowingTest(unittest.TestCase):
    def test_empty_at_first(self):
        closure = Closure(BOOK, ["main", "z"], reach=30)
        self.assertIs(closure.book, BOOK)
        self.assertEqual(closure.reach, 30)
        self.assertEqual(closure.roots(), ["main", "z"])
        self.assertEqual(closure.needs(), [])
        self.assertEqual(list(closure.walk()), [])
        self.assertEqual(closure.ready(), [("live", "l", "n", "z"), ("live", "o", "", "main")])
        self.assertIs(closure.finished, False)

    def test_ready_behind_each_need(self):
        closure = Closure(BOOK, ["main"])
        expected = {
            0: [("live", "l", "m", "x"), ("live", "o", "", "f"), ("stub", "x")],
            1: [("live", "l", "m", "x"), ("live", "o", "", "d"), ("long", "o", "", "f", 0), ("stub", "x")],
            4: [("live", "l", "m", "x")],
            5: [("drawn", "l", "m"), ("live", "l", "n", "y")],
            6: [("live", "l", "m", "k"), ("live", "l", "n", "y")],
            8: [("drawn", "l", "n")],
            9: [],
        }
        for at, need in enumerate(NEEDS):
            self.assertIsNone(closure.add(need))
            self.assertEqual(closure.needs(), sorted(NEEDS[: at + 1]))
            self.assertIs(closure.finished, at == 9)
            if at in expected:
                self.assertEqual(closure.ready(), expected[at])

    def test_any_order(self):
        text = "object o; outside x; code a 1 export; call b; call x; halt; code b 1 local; room 9; jump b;"
        book = book_of(text + "code c 1 local keep; halt; data d 1 export; end")
        needs = needs_of(book, ["a", "d"], reach=4)
        self.assertEqual(len(needs), 8)
        orders = 0
        for order in itertools.permutations(needs):
            closure = Closure(book, ["a", "d"], reach=4)
            for need in order:
                if need not in closure.ready():
                    break
                closure.add(need)
            else:
                orders += 1
                self.assertIs(closure.finished, True)
                self.assertEqual([step[0] for step in closure.walk()], list(order))
                self.assertTrue(is_chain(book, ["a", "d"], list(closure.walk()), reach=4))
        self.assertGreater(orders, 50)

    def test_finish_from_each_state(self):
        for many in range(len(NEEDS) + 1):
            closure = Closure(BOOK, ["main"])
            for need in NEEDS[:many]:
                closure.add(need)
            self.assertIsNone(closure.finish())
            self.assertIs(closure.finished, True)
            self.assertEqual(closure.ready(), [])
            self.assertEqual(closure.needs(), sorted(NEEDS))
            self.assertEqual([step[0] for step in closure.walk()][:many], NEEDS[:many])

    def test_not_ready(self):
        closure = Closure(BOOK, ["main"])
        closure.add(NEEDS[0])
        closure.add(NEEDS[1])
        before = state(closure)
        others = NEEDS[:2] + NEEDS[6:] + [list(NEEDS[2]), ("stub", "gone"), ("long", "o", "", "f", False), "main"]
        for value in all_odd_values() + others:
            self.assertIs(raised(self, NotReady, closure.add, value).need, value)
        self.assertEqual(state(closure), before)

    def test_a_form_turns_long_when_a_stub_comes_in(self):
        book = book_of("object o; outside x; outside y; code a 1 export; call x; call y; halt; end")
        closure = Closure(book, ["a"], reach=6)
        closure.add(("live", "o", "", "a"))
        self.assertEqual(closure.ready(), stubs("x", "y"))
        closure.add(("stub", "x"))
        self.assertEqual(closure.ready(), stubs("y"))
        closure.add(("stub", "y"))
        self.assertEqual(closure.ready(), long("a", 0))
        closure.add(("long", "o", "", "a", 0))
        self.assertEqual(closure.ready(), long("a", 1))
        closure.finish()
        self.assertEqual(closure.needs(), live("a") + long("a", 0, 1) + stubs("x", "y"))

    def test_lists_that_are_changed(self):
        roots = ["main"]
        closure = Closure(BOOK, roots)
        roots[0] = "z"
        closure.ready().clear()
        closure.roots().clear()
        closure.finish()
        closure.needs().clear()
        closure.chain(NEEDS[0]).clear()
        self.assertEqual(closure.roots(), ["main"])
        self.assertEqual(closure.needs(), sorted(NEEDS))
        needs_of(BOOK, ["main"]).clear()
        self.assertEqual(len(needs_of(BOOK, ["main"])), 10)

    def test_errors(self):
        wrong = [value for value in all_odd_values() if value not in (["halt"], ("halt",))]
        for call in (Closure, needs_of):
            for value in wrong + ["main", ["a", "a"], list("abcde"), ["A"]]:
                raised(self, InvalidRoots, call, BOOK, value)
                raised(self, InvalidRoots, call, BOOK, value, reach=3)
            for value in all_odd_values() + [3, 101, "40", [40]]:
                self.assertIs(raised(self, InvalidReach, call, BOOK, ["main"], reach=value).value, value)

    def test_length_truth_repr_and_contains(self):
        closure = Closure(BOOK, ["main"])
        self.assertEqual([len(closure), bool(closure), repr(closure)], [0, True, "Closure(0 needs)"])
        closure.add(NEEDS[0])
        self.assertEqual([len(closure), bool(closure), repr(closure)], [1, True, "Closure(1 needs)"])
        closure.finish()
        self.assertEqual([len(closure), bool(closure), repr(closure)], [10, True, "Closure(10 needs)"])

    def test_contains(self):
        closure = Closure(BOOK, ["main"])
        for at, need in enumerate(NEEDS):
            self.assertIs(need in closure, False)
            closure.add(need)
            self.assertEqual([other in closure for other in NEEDS], [True] * (at + 1) + [False] * (9 - at))
        others = [list(NEEDS[0]), ("live", "l", "n", "z"), ("long", "o", "", "f", False), ("live", [], "", "f"), "main"]
        for value in all_odd_values() + others + [closure, ("stub", ["x"])]:
            self.assertIs(value in closure, False)


class ReasonsTest(unittest.TestCase):
    def test_reasons_rest_on_earlier_needs(self):
        for closure in (finished(BOOK, ["main", "z"], reach=4), finished(BOOK, ["main"])):
            seen = []
            for step in closure.walk():
                self.assertTrue(is_step(BOOK, closure.roots(), step, reach=closure.reach), step)
                self.assertEqual(closure.reason(step[0]), step)
                self.assertTrue(all(need in seen for need in step[2]))
                seen.append(step[0])
            self.assertEqual(sorted(seen), closure.needs())

    def test_reasons_stay_as_needs_come(self):
        closure = Closure(BOOK, ["main"])
        told = {}
        for need in NEEDS:
            closure.add(need)
            told[need] = closure.reason(need)
            self.assertEqual([closure.reason(other) for other in told], list(told.values()))
        self.assertEqual(list(closure.walk()), list(told.values()))

    def test_reason_by_rule(self):
        closure = Closure(BOOK, ["main"])
        for need in NEEDS:
            closure.add(need)
        words = [closure.reason(need)[1] for need in NEEDS]
        told = "root reference reference data stub reference drawn keep reference drawn"
        self.assertEqual(words, told.split())

    def test_chains(self):
        for closure in (finished(BOOK, ["main", "z"], reach=4), finished(BOOK, ["main"])):
            for need in closure.needs():
                chain = closure.chain(need)
                self.assertIsInstance(chain, list)
                self.assertTrue(is_chain(BOOK, closure.roots(), chain, reach=closure.reach))
                self.assertEqual(chain[-1][0], need)
                self.assertEqual(len({step[0] for step in chain}), len(chain))

    def test_a_chain_is_told_before_all_is_there(self):
        closure = Closure(BOOK, ["main"])
        closure.add(NEEDS[0])
        closure.add(NEEDS[1])
        self.assertEqual(closure.chain(NEEDS[1]), list(closure.walk()))

    def test_unknown_needs(self):
        closure = Closure(BOOK, ["main"])
        closure.add(NEEDS[0])
        others = NEEDS[1:] + [list(NEEDS[0]), ("stub", "gone"), ("long", "o", "", "f", False), ("live", [], "", "f")]
        for value in all_odd_values() + others:
            self.assertIs(raised(self, UnknownNeed, closure.reason, value).need, value)
            self.assertIs(raised(self, UnknownNeed, closure.chain, value).need, value)

    def test_two_walks_side_by_side(self):
        closure = finished(BOOK, ["main"])
        one, other = closure.walk(), closure.walk()
        first = next(one)
        self.assertEqual([next(one), next(other)], [list(closure.walk())[1], first])
        self.assertEqual(list(one), list(closure.walk())[2:])


class TwinTest(unittest.TestCase):
    def test_a_twin_is_in_the_same_state(self):
        for many in (0, 3, 6, 10):
            closure = Closure(BOOK, ["main"], reach=30)
            for need in NEEDS[:many]:
                closure.add(need)
            twin = closure.twin()
            self.assertIs(twin.__class__, Closure)
            self.assertEqual(state(twin), state(closure))
            self.assertEqual(twin.book, BOOK)

    def test_twins_share_nothing(self):
        closure = Closure(BOOK, ["main"])
        closure.add(NEEDS[0])
        twin = closure.twin()
        before = state(closure)
        twin.finish()
        self.assertEqual(state(closure), before)
        before = state(twin)
        closure.add(NEEDS[1])
        self.assertEqual(state(twin), before)

    def test_widened(self):
        more = Object("more", code("extra", [("call", "main"), ("halt",)], keep=True))
        big = BOOK.with_unit(more, 0)
        for many in (0, 3, 6, 10):
            closure = Closure(BOOK, ["main"], reach=30)
            for need in NEEDS[:many]:
                closure.add(need)
            before = state(closure)
            wider = closure.widened(big)
            self.assertEqual(wider.book, big)
            self.assertEqual(list(wider.walk()), list(closure.walk()))
            self.assertEqual([wider.roots(), wider.reach], [["main"], 30])
            self.assertIn(("live", "more", "", "extra"), wider.ready())
            wider.finish()
            self.assertEqual(wider.needs(), needs_of(big, ["main"], reach=30))
            self.assertTrue(is_chain(big, ["main"], list(wider.walk()), reach=30))
            self.assertEqual(state(closure), before)
            again = closure.widened(book=BOOK)
            self.assertEqual(state(again), before)

    def test_a_wider_closure_finds_what_had_no_answer(self):
        book = book_of("object o; code a 1 export; call b; room 60; jump a; end")
        closure = finished(book, ["a", "c"])
        big = book + Object("p", code("b", scope="export"), code("c", scope="weak"))
        wider = closure.widened(big)
        self.assertEqual(wider.ready(), live("b", "c", unit="p"))
        wider.finish()
        self.assertEqual(wider.needs(), live("a") + live("b", "c", unit="p") + long("a", 0, 2))

    def test_not_larger(self):
        closure = finished(BOOK, ["main"])
        main, lib = BOOK.units()
        for other in (
            Book(),
            Book(main),
            Book(lib, main),
            Book(Object("o", *main.pieces()), lib),
            Book(main, lib, Object("p", code("x", scope="export"))),
        ):
            before = state(closure)
            raised(self, NotLarger, closure.widened, other)
            self.assertEqual(state(closure), before)


if __name__ == "__main__":
    unittest.main()

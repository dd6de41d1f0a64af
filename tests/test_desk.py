"""Desks: point [37], leastimage/desk.py."""

import unittest
import unittest.mock

from leastimage.books import Book
from leastimage.deeds import table_behind
from leastimage.desk import Desk
from leastimage.errors import (
    Double,
    DuplicateName,
    Ended,
    Full,
    InvalidBase,
    InvalidDeed,
    InvalidNumber,
    InvalidPage,
    InvalidReach,
    InvalidRoots,
    InvalidRow,
    InvalidUnit,
    NoRun,
    NotClosing,
    NotCode,
    NotReplaced,
    NothingLeft,
    TooMany,
    TooSmall,
    Unanswered,
    UnknownName,
    UnknownPiece,
    UnknownRoot,
    Unlinked,
    Within,
)
from leastimage.images import link
from leastimage.objects import Archive, Object
from leastimage.runs import Run

from common import all_odd_values, code, data, raised
from test_runs import told_of

ROWS = [("put", "r0", 2), ("call", "twice"), ("out", "r0"), ("jump", "main")]
TWICE = code("twice", [("add", "r0", "r0"), ("put", "r1", 0), ("back",)])
MAIN = Object("main", code("main", ROWS, scope="export"), TWICE)
LIB = Object("lib", code("lib", [("back",)], scope="export"))
KEY = ("main", "", "main")
LOW = ("main", "", "twice")
HALT = [("halt",)]


def state(desk):
    """All that a desk tells."""
    run = desk.held_run()
    told = [desk.book, desk.roots(), desk.reach, desk.page, desk.history(), desk.busy, desk.log(), desk.text()]
    return told + [len(desk), repr(desk), None if run is None else told_of(run)]


def desk_with(*deeds):
    desk = Desk()
    desk.do(*deeds)
    return desk


def running(*deeds):
    """A desk with a run, in one step of its history, and further deeds in another one."""
    desk = desk_with(("put", MAIN), ("load", 64, False))
    if deeds:
        desk.do(*deeds)
    return desk


class BeginningTest(unittest.TestCase):
    def test_the_state(self):
        desk = Desk()
        told = [desk.book, desk.roots(), desk.reach, desk.page, desk.held_run(), desk.history(), desk.busy, desk.log()]
        self.assertEqual(told, [Book(), ["main"], 40, 16, None, (0, 0), False, []])
        self.assertEqual([len(desk), repr(desk), desk.text()], [0, "Desk(0 units)", "roots main\nreach 40\npage 16\n"])
        self.assertIs(bool(desk), True)
        self.assertEqual(raised(self, UnknownRoot, desk.image).name, "main")


class DeedsTest(unittest.TestCase):
    def test_put_and_off(self):
        desk = Desk()
        self.assertIsNone(desk.do(("put", MAIN)))
        desk.do(("put", LIB), ("put", Archive("arch")))
        self.assertEqual([desk.book, len(desk), repr(desk)], [Book(MAIN, LIB, Archive("arch")), 3, "Desk(3 units)"])
        self.assertIsNone(desk.do(("off", "lib")))
        self.assertEqual(desk.book, Book(MAIN, Archive("arch")))

    def test_roots_reach_and_page(self):
        desk = desk_with(("roots", ["a", "b"]), ("reach", 4), ("page", 64))
        self.assertEqual([desk.roots(), desk.reach, desk.page], [["a", "b"], 4, 64])
        desk.do(("roots", ("main",)), ("reach", 100), ("page", 32))
        self.assertEqual([desk.roots(), desk.reach, desk.page], [["main"], 100, 32])

    def test_each_of_them_stays_in_later_calls(self):
        desk = desk_with(("roots", ["a", "b"]))
        desk.do(("reach", 7))
        desk.do(("page", 64))
        desk.do(("put", LIB))
        self.assertEqual([desk.roots(), desk.reach, desk.page, desk.book], [["a", "b"], 7, 64, Book(LIB)])
        self.assertEqual(desk.twin().text(), desk.text())

    def test_image(self):
        desk = desk_with(("put", MAIN), ("reach", 4), ("page", 32))
        self.assertEqual(desk.image(), link(Book(MAIN), ["main"], reach=4, page=32))
        desk.do(("off", "main"), ("put", Object("main", code("main", [("jump", "x")], scope="export"))))
        self.assertEqual(raised(self, Unanswered, desk.image).spot, (*KEY, 0))

    def test_load(self):
        for early in (False, True):
            desk = desk_with(("put", MAIN), ("page", 32), ("reach", 5), ("load", 96, early))
            run = desk.held_run()
            self.assertIsInstance(run, Run)
            self.assertEqual(run.loaded.images(), [link(Book(MAIN), ["main"], reach=5, page=32)])
            self.assertEqual([run.loaded.bases(), run.place()], [[96], (0, *KEY, 0, 0)])

    def test_load_begins_at_the_first_root(self):
        desk = desk_with(("put", LIB), ("put", MAIN), ("roots", ["lib", "main"]), ("load", 16, False))
        self.assertEqual(desk.held_run().place(), (0, "lib", "", "lib", 0, 0))

    def test_load_early_or_late(self):
        unit = Object("main", code("main", [("call", "far"), ("halt",)], scope="export"), code("far", [("back",)], scope="open"))
        for early in (False, True):
            run = desk_with(("put", unit), ("load", 16, early)).held_run()
            self.assertEqual(run.plain().bound(), {(0, "far"): (0, ("main", "", "far"))} if early else {})

    def test_load_drops_a_run(self):
        desk = running(("go", 5))
        desk.do(("load", 128, False))
        run = desk.held_run()
        self.assertEqual([run.loaded.bases(), run.place()[5], run.outputs()], [[128], 0, []])

    def test_go(self):
        desk = running()
        desk.do(("go", 1))
        self.assertEqual(desk.held_run().place(), (0, *KEY, 0, 1))
        desk.do(("go", 200))
        self.assertEqual([len(desk.held_run().outputs()), desk.held_run().agrees()], [28, True])
        desk.do(("rewrite", KEY, HALT), ("go", 200), ("go", 7))
        self.assertEqual([desk.held_run().ended, desk.history()], ["halt", (4, 0)])

    def test_rewrite_and_restore(self):
        desk = running(("rewrite", KEY, [("put", "r0", 5), ("out", "r0"), ("halt",)]))
        self.assertEqual(desk.held_run().editions(KEY), [0, 1])
        desk.do(("go", 2), ("rewrite", LOW, HALT), ("rewrite", LOW, (("halt",),)), ("restore", LOW))
        self.assertEqual([desk.held_run().editions(LOW), desk.held_run().outputs()], [[0, 1], [5]])
        desk.do(("restore", LOW), ("restore", KEY))
        self.assertEqual([desk.held_run().editions(LOW), desk.held_run().editions(KEY)], [[0], [0]])

    def test_drop(self):
        desk = running()
        desk.do(("drop",))
        self.assertIsNone(desk.held_run())

    def test_the_run_stays_as_it_is(self):
        desk = running(("go", 3))
        before = told_of(desk.held_run())
        desk.do(("off", "main"), ("put", LIB), ("roots", ["lib"]), ("reach", 7), ("page", 64))
        self.assertEqual(told_of(desk.held_run()), before)
        desk.do(("rewrite", KEY, HALT))
        self.assertEqual(desk.held_run().editions(KEY), [0, 1])

    def test_lists_that_are_given(self):
        roots, rows = ["main"], [("out", "r1"), ("halt",)]
        desk = desk_with(("put", MAIN), ("roots", roots), ("load", 64, False), ("rewrite", KEY, rows))
        roots.append("lib")
        rows[0] = ("out", "r9")
        desk.do(("go", 9))
        self.assertEqual([desk.roots(), desk.held_run().outputs()], [["main"], [0]])
        for told in (desk.roots, desk.log):
            told().append("x")
        self.assertEqual([desk.roots(), desk.log()], [["main"], []])

    def test_a_held_run_is_a_twin(self):
        desk = running(("go", 3))
        run = desk.held_run()
        before = state(desk)
        run.rewrite(KEY, HALT)
        run.run()
        self.assertEqual(state(desk), before)

    def test_several_in_one_call(self):
        desk = Desk()
        desk.do(("put", MAIN), ("load", 64, True), ("go", 4), ("rewrite", KEY, HALT), ("off", "main"), ("go", 100))
        self.assertEqual([desk.book, desk.held_run().ended, desk.history()], [Book(), "halt", (1, 0)])

    def test_no_deeds(self):
        desk = running()
        desk.undo()
        before = state(desk)
        self.assertIsNone(desk.do())
        self.assertEqual([state(desk), desk.history()], [before, (0, 1)])


class ErrorsTest(unittest.TestCase):
    def refused(self, desk, error, *deeds):
        """The error of do and of tried, which change nothing, alone and behind other deeds."""
        before = state(desk)
        found = raised(self, error, desk.do, *deeds)
        self.assertEqual(state(desk), before)
        self.assertIs(desk.busy, False)
        self.assertEqual(vars(raised(self, error, desk.tried, *deeds)), vars(found))
        self.assertEqual(state(desk), before)
        return found

    def test_no_deeds(self):
        words = ["put", "off", "roots", "reach", "page", "load", "go", "rewrite", "restore", "drop"]
        sizes = [2, 2, 2, 2, 2, 3, 2, 3, 2, 1]
        wrong = [(word, *[True] * many) for word, size in zip(words, sizes) for many in range(5) if many + 1 != size]
        wrong += [["drop"], "drop", ("Drop",), ("drop ",), (("drop",),), ("", 1), ("undo",), (None, 1), (1, 2), (True, 1)]
        wrong += [("load", 64, early) for early in (0, 1, None, "True", (), [True])]
        for deed in [*wrong, *all_odd_values(), (MAIN, 1), (["drop"],)]:
            self.assertEqual(self.refused(Desk(), InvalidDeed, deed).at, 0, deed)
            self.assertEqual(self.refused(running(), InvalidDeed, ("put", None), ("drop",), deed, ("x",)).at, 2)

    def test_invalid_deeds_come_ahead_of_all(self):
        desk = Desk()
        self.assertEqual(self.refused(desk, InvalidDeed, ("go", 0), ("off", "x"), ("drop",), 1).at, 3)
        self.assertEqual(self.refused(desk, InvalidDeed, ("load", 1, 1), ("x",)).at, 0)

    def test_put(self):
        desk = desk_with(("put", MAIN), ("put", LIB))
        for value in [5, "main", MAIN.pieces()[0], *all_odd_values()]:
            self.assertEqual(self.refused(desk, InvalidUnit, ("put", value)).at, 2)
            self.assertEqual(self.refused(desk, InvalidUnit, ("off", "lib"), ("put", value)).at, 1)
        self.assertEqual(self.refused(desk, DuplicateName, ("put", Object("lib"))).name, "lib")
        error = self.refused(desk, Double, ("put", Object("x", data("main", scope="export"))))
        self.assertEqual([error.name, error.first, error.second], ["main", "main", "x"])
        six = [("put", Object(name)) for name in "abcdef"]
        desk.do(*six[:4])
        self.assertEqual(self.refused(desk, TooMany, ("put", LIB)).most, 6)
        self.assertEqual(self.refused(Desk(), TooMany, *six, ("put", LIB)).most, 6)
        full = [("put", Object(name, *[code(name + other) for other in "abcdefgh"])) for name in "abc"]
        self.assertEqual(self.refused(Desk(), TooMany, *full, ("put", LIB)).most, 24)

    def test_off(self):
        desk = desk_with(("put", MAIN))
        for name in ["lib", "Main", 3, *all_odd_values()]:
            self.assertIs(self.refused(desk, UnknownName, ("off", name)).name, name)
        self.assertEqual(self.refused(desk, UnknownName, ("off", "main"), ("off", "main")).name, "main")

    def test_roots_reach_and_page(self):
        desk = Desk()
        odd = [value for value in all_odd_values() if value != ["halt"]]
        for roots in [[], "main", ["a", "a"], list("abcde"), ["A"], 1, *odd]:
            self.refused(desk, InvalidRoots, ("roots", roots))
        for reach in [3, 101, 40 + 10**8, "40", *all_odd_values()]:
            self.assertIs(self.refused(desk, InvalidReach, ("reach", reach)).value, reach)
        for page in [0, 15, 17, 48, 128, "16", *all_odd_values()]:
            self.assertIs(self.refused(desk, InvalidPage, ("page", page)).value, page)

    def test_load(self):
        desk = Desk()
        self.assertEqual(self.refused(desk, UnknownRoot, ("load", 1, False)).name, "main")
        error = self.refused(desk, Unanswered, ("put", Object("o", code("main", [("jump", "x")], scope="weak"))), ("load", 1, True))
        self.assertEqual([error.name, error.spot], ["x", ("o", "", "main", 0)])
        pieces = [code("main", [("jump", "x")], scope="weak"), data("x")]
        self.assertEqual(self.refused(desk, NotCode, ("put", Object("o", *pieces)), ("load", 1, True)).name, "x")
        desk.do(("put", MAIN), ("page", 32))
        for base in [0, 16, 48, -32, 65536, "32", (32,), *all_odd_values()]:
            self.assertEqual(self.refused(desk, InvalidBase, ("load", base, False)).at, 0)
        desk = running(("go", 3))
        self.assertEqual(self.refused(desk, InvalidBase, ("load", 1, False)).at, 0)

    def test_no_run(self):
        desk = desk_with(("put", MAIN))
        for deed in [("go", 0), ("go", None), ("rewrite", None, None), ("restore", None), ("drop",)]:
            self.refused(desk, NoRun, deed)
            self.refused(desk, NoRun, ("load", 64, True), ("drop",), deed)
            self.refused(running(("drop",)), NoRun, deed)

    def test_go(self):
        desk = running()
        for many in [0, -1, 201, 10**8, "1", *all_odd_values()]:
            self.assertIs(self.refused(desk, InvalidNumber, ("go", many)).value, many)
            self.assertIs(self.refused(desk, InvalidNumber, ("rewrite", KEY, HALT), ("go", 9), ("go", many)).value, many)

    def test_rewrite_and_restore(self):
        desk = running(("go", 7))
        self.assertEqual(self.refused(desk, UnknownPiece, ("rewrite", ("main", "", "x"), None)).key, ("main", "", "x"))
        self.assertEqual(self.refused(desk, InvalidRow, ("rewrite", KEY, None)).at, -1)
        self.assertEqual(self.refused(desk, TooMany, ("rewrite", KEY, HALT * 17)).most, 16)
        self.refused(desk, NotClosing, ("rewrite", KEY, []))
        self.assertEqual(self.refused(desk, Unlinked, ("rewrite", KEY, [("jump", "x")])).name, "x")
        unit = Object("main", code("main", HALT, scope="export"))
        small = desk_with(("put", unit), ("load", 64, False))
        self.assertEqual(self.refused(small, TooSmall, ("rewrite", KEY, HALT)).key, KEY)
        self.assertEqual(self.refused(small, Ended, ("go", 1), ("rewrite", None, None)).code, "Ended")
        self.assertEqual(self.refused(small, Ended, ("go", 1), ("restore", None)).code, "Ended")
        self.assertEqual(self.refused(desk, UnknownPiece, ("restore", None)).key, None)
        self.assertEqual(self.refused(desk, NotReplaced, ("rewrite", LOW, HALT), ("restore", KEY)).key, KEY)
        full = desk_with(("put", MAIN), ("load", 65520, False))
        self.refused(full, Full, ("rewrite", KEY, HALT))

    def test_within(self):
        desk = running(("go", 3))
        self.assertEqual(desk.held_run().place(), (0, *LOW, 0, 1))
        self.assertEqual(self.refused(desk, Within, ("rewrite", LOW, HALT)).spot, (0, *LOW, 0, 1))

    def test_all_or_none(self):
        desk = running(("go", 5))
        deeds = [("put", LIB), ("roots", ["lib"]), ("reach", 5), ("page", 32), ("go", 20), ("rewrite", LOW, HALT), ("load", 96, True)]
        for at in range(len(deeds) + 1):
            self.refused(desk, UnknownName, *deeds[:at], ("off", "nobody"))
        desk.do(*deeds)
        self.assertEqual([desk.history(), desk.held_run().loaded.bases()], [(3, 0), [96]])


class HistoryTest(unittest.TestCase):
    def test_nothing_left(self):
        desk = Desk()
        raised(self, NothingLeft, desk.undo)
        raised(self, NothingLeft, desk.redo)
        desk.do(("put", MAIN))
        raised(self, NothingLeft, desk.redo)
        self.assertIsNone(desk.undo())
        raised(self, NothingLeft, desk.undo)
        self.assertIsNone(desk.redo())
        raised(self, NothingLeft, desk.redo)
        self.assertEqual(desk.history(), (1, 0))

    def test_there_and_back(self):
        desk = Desk()
        steps = [
            [("put", MAIN)],
            [("load", 64, False), ("go", 7)],
            [("go", 3)],
            [("rewrite", KEY, [("out", "r0"), ("halt",)])],
            [("off", "main"), ("put", LIB), ("roots", ["lib"])],
            [("go", 200)],
            [("drop",)],
            [("load", 16, True), ("reach", 9), ("page", 64)],
        ]
        states = [state(desk)]
        for deeds in steps:
            desk.do(*deeds)
            states.append(state(desk))
        many = len(steps)

        def check(at):
            told = state(desk)
            self.assertEqual(told[:4] + told[5:], states[at][:4] + states[at][5:], at)
            self.assertEqual(desk.history(), (at, many - at))

        for at in range(many - 1, -1, -1):
            desk.undo()
            check(at)
        for at in range(1, many + 1):
            desk.redo()
            check(at)
        for at in (7, 6, 5):
            desk.undo()
            check(at)

    def test_a_step_behind_undo(self):
        desk = running(("go", 3))
        desk.do(("go", 3))
        desk.undo()
        desk.undo()
        self.assertEqual([desk.history(), desk.held_run().place()[5]], [(1, 2), 0])
        desk.do(("go", 1))
        self.assertEqual([desk.history(), desk.held_run().place()[5]], [(2, 0), 1])
        raised(self, NothingLeft, desk.redo)

    def test_a_refused_step_leaves_redo(self):
        desk = running(("go", 3))
        desk.undo()
        raised(self, InvalidNumber, desk.do, ("go", 0))
        self.assertEqual(desk.history(), (1, 1))
        desk.tried(("reach", 7))
        self.assertEqual(desk.history(), (1, 1))
        desk.redo()
        self.assertEqual(desk.held_run().place()[5], 1)

    def test_steps_that_change_nothing_count(self):
        desk = running(("reach", 40))
        desk.do(("rewrite", KEY, HALT), ("go", 1))
        desk.do(("go", 9))
        self.assertEqual(desk.history(), (4, 0))
        desk.undo()
        desk.undo()
        self.assertEqual([desk.held_run().ended, desk.held_run().editions(KEY)], ["", [0]])

    def test_runs_of_the_history_are_not_shared(self):
        desk = running()
        for _ in range(3):
            desk.do(("go", 5))
        desk.undo()
        desk.undo()
        before = state(desk)
        desk.redo()
        desk.do(("rewrite", KEY, HALT))
        desk.undo()
        desk.undo()
        told = state(desk)
        self.assertEqual(told[:4] + told[5:], before[:4] + before[5:])


class BusyTest(unittest.TestCase):
    def test_while_deeds_are_done(self):
        desk, told = Desk(), []

        def watched(table, deeds):
            told.append(desk.busy)
            return table_behind(table, deeds)

        with unittest.mock.patch("leastimage.desk.table_behind", watched):
            desk.do(("put", MAIN))
            self.assertIs(desk.busy, False)
            desk.tried(("put", LIB))
            self.assertIs(desk.busy, False)
            raised(self, NoRun, desk.do, ("drop",))
            self.assertIs(desk.busy, False)
        self.assertEqual(told, [True, True, True])


class TriedTest(unittest.TestCase):
    def test_the_text_behind_deeds(self):
        desk = running(("go", 3))
        before = state(desk)
        self.assertEqual(desk.tried(), desk.text())
        told = desk.tried(("off", "main"), ("put", LIB), ("reach", 5), ("go", 9), ("drop",), ("page", 32), ("roots", ["x", "lib"]))
        self.assertEqual(told, "object lib\ncode lib 1 export\nback\nend\nroots x lib\nreach 5\npage 32\n")
        self.assertEqual(state(desk), before)


class TwinTest(unittest.TestCase):
    def test_twins(self):
        desk = running(("go", 3))
        desk.do(("reach", 9))
        desk.undo()
        desk.say("units")
        desk.say("what")
        twin, before = desk.twin(), state(desk)
        self.assertEqual(state(twin), before)
        twin.redo()
        self.assertEqual(desk.history(), (2, 1))
        twin.undo()
        twin.do(("go", 9), ("rewrite", KEY, HALT), ("off", "main"))
        twin.say("end")
        twin.undo()
        twin.undo()
        self.assertEqual(state(desk), before)
        after = state(twin)
        desk.redo()
        desk.do(("put", LIB))
        desk.say("needs")
        self.assertEqual(state(twin), after)
        self.assertEqual([desk.history(), twin.history()], [(4, 0), (1, 2)])
        self.assertEqual([line for line, _ in twin.log()], ["units", "what", "end"])

    def test_equal_desks(self):
        desk = desk_with(("put", MAIN), ("put", LIB))
        self.assertTrue(desk == desk.twin() and not desk != desk.twin())
        other = desk_with(("put", MAIN), ("load", 64, True), ("put", LIB), ("go", 9))
        other.say("units")
        self.assertTrue(desk == other)
        for deeds in ([("off", "lib")], [("off", "main"), ("put", MAIN)], [("reach", 41)], [("page", 32)], [("roots", ["lib"])]):
            changed = desk.twin()
            changed.do(*deeds)
            self.assertFalse(desk == changed, deeds)
            self.assertTrue(desk != changed, deeds)
        two = desk_with(("roots", ["a", "b"]))
        self.assertFalse(two == desk_with(("roots", ["b", "a"])))
        self.assertTrue(two == desk_with(("roots", ("a", "b"))))
        for value in [None, 1, "Desk(0 units)", Book(), desk.text(), *all_odd_values()]:
            self.assertFalse(desk == value)


if __name__ == "__main__":
    unittest.main()

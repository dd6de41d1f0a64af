"""Runs of both machines: point [34], leastimage/runs.py."""

import unittest

from leastimage.errors import (
    Ended,
    InvalidBase,
    InvalidImage,
    InvalidNumber,
    Overlap,
    UnknownImage,
    UnknownRoot,
)
from leastimage.libraries import general_library
from leastimage.loading import Loaded
from leastimage.machine import Machine
from leastimage.plain import Plain
from leastimage.runs import Run

from common import all_odd_values, image_in, loaded_in, raised

WORK = (
    "object o; outside far; code main 1 export; name r0 d; put r1 5; store r1 r0 1; call low; load r2 r0 1; out r2;",
    "name r2 low; callby r2; call far; ifzero r1 main; halt; code low 4 local; put r1 7; ifzero r2 none; store r1 r0 1;",
    "back; code none 1 open; put r2 1; out r2; back; data d 2 local; word 3; word 4; address d; address far; end",
)
DEEP = "object o; code main 1 export; call main; halt; end"


def loaded_at(base, *parts, libraries=(), **more):
    """The image of a text at a base, with libraries far behind it."""
    image = image_in(*parts, **more)
    bases = [base] + [base + 1024 * at for at in range(1, len(libraries) + 1)]
    return Loaded(image, *libraries, bases=bases)


def told_of(run):
    """All that a run tells."""
    plain, machine = run.plain(), run.machine()
    told = [run.ended, run.place(), run.frames(), run.registers(), run.outputs(), run.cell_place(), run.cell_frames()]
    told += [repr(run), plain.order(), plain.bound(), machine.place(), machine.frames(), machine.registers(), machine.ends()]
    told += [machine.outputs(), machine.ended, run.loaded.images(), run.loaded.bases()]
    for at, image in enumerate(run.loaded.images()):
        for key in [need[1:] for need in image.needs() if need[0] == "live"]:
            code = image.book.piece(key).part == "code"
            told.append(run.editions(key, image=at) if code else plain.content(key, image=at))
    first, last = run.loaded.bases()[0], machine.ends()[-1]
    return told + [machine.cell_at(address) for address in range(first, min(last, first + 4096))]


class Checks(unittest.TestCase):
    def through(self, run, most=400):
        """Does rows to the end; the machines agree behind each."""
        self.assertIs(run.agrees(), True)
        for _ in range(most):
            if run.ended != "":
                break
            run.step()
            self.assertIs(run.agrees(), True)
            if run.ended == "":
                self.assertEqual([run.cell_place(), run.cell_frames()], [run.place(), run.frames()])
        return run


class AgreeingTest(Checks):
    def test_bases_forms_late_and_early(self):
        library = general_library(["x", "far"], page=64)
        for base in (64, 4096, 32768, 65408 - 1024, 61440):
            for reach in (4, 8, 100):
                for early in (False, True):
                    loaded = loaded_at(base, *WORK, libraries=[library], reach=reach, page=32)
                    run = self.through(Run(loaded, "main", early=early))
                    self.assertEqual([run.ended, run.outputs()], ["halt", [1, 5, 60001]])

    def test_libraries_ahead_and_behind(self):
        for ahead in (False, True):
            for early in (False, True):
                loaded = loaded_at(64, *WORK, libraries=[general_library(["far"])])
                run = Run(loaded, "main", early=early)
                run.run(6)
                self.assertEqual(run.opened(general_library(["none", "far"]), 8192, ahead=ahead), 2)
                self.assertIs(run.agrees(), True)
                self.through(run)
                outputs = [1, 5, 60001 if ahead and not early else 60000]
                self.assertEqual(run.outputs(), outputs)

    def test_behind_all_if_nothing_else_is_said(self):
        run = Run(loaded_at(64, *WORK, libraries=[general_library(["far"])]), "main")
        self.assertEqual([run.opened(general_library(["none", "far"]), 8192), run.plain().order()], [2, [0, 1, 2]])
        self.through(run)
        self.assertEqual(run.outputs(), [1, 5, 60000])

    def test_a_library_that_turns_a_call(self):
        run = Run(loaded_at(64, *WORK), "main")
        run.opened(general_library(["none", "far"]), 8192, ahead=True)
        self.through(run)
        # The library does not set r2, so that r0 is taken for another one there.
        self.assertEqual([run.outputs()[0], run.ended], [60000, "outside"])

    def test_each_end(self):
        ends = {
            "halt": ["halt", "out r0; halt"],
            "done": ["back"],
            "room": ["room 3; halt"],
            "deep": ["call main; halt", "name r1 main; callby r1; halt"],
            "unbound": ["jump far", "call far; halt", "ifzero r2 far; halt", "name r0 far; callby r0; halt"],
            "seen": ["name r0 d; out r0; halt", "name r0 d; add r0 r0; halt", "name r0 d; take r1 r0; halt"],
            "outside": ["load r0 r0 0; halt", "callby r0; halt", "name r0 main; store r0 r0 0; halt"],
        }
        for word, programs in ends.items():
            for rows in programs:
                for reach in (4, 40):
                    text = f"object o; outside far; code main 1 export; {rows}; data d 1 local keep; word 1; end"
                    run = self.through(Run(loaded_in(text, reach=reach), "main"))
                    self.assertEqual([run.ended, repr(run)], [word, f"Run({word})"], rows)
                    machine = run.machine()
                    self.assertEqual(machine.ended, "" if word in ("seen", "outside") else word, rows)

    def test_the_cells_stay_where_they_are(self):
        run = Run(loaded_in("object o; code main 1 export; put r0 3; name r1 main; out r1; halt; end"), "main")
        run.run(2)
        before = [run.machine().place(), run.machine().registers()]
        run.step()
        self.assertEqual([run.ended, run.agrees()], ["seen", True])
        self.assertEqual([run.machine().place(), run.machine().registers()], before)
        self.assertEqual([run.machine().outputs(), run.machine().ended], [[], ""])

    def test_deep_in_both_forms(self):
        for filler in ("", "code fill 1 local keep; room 100; halt; "):
            text = f"object o; code main 1 export; call low; halt; {filler}code low 1 local; call main; halt; end"
            run = self.through(Run(loaded_in(text), "main"))
            self.assertEqual([run.ended, len(run.frames()), run.machine().ended], ["deep", 30, "deep"])

    def test_addresses_above_all(self):
        text = "object o; code main 1 export; name r0 d; load r1 r0 1; out r1; name r2 e; ifzero r2 main; halt; "
        text += "data d 1 local; word 5; word 6; data e 16 local; end"
        image = image_in(text)
        loaded = Loaded(image, bases=[65536 - image.size - (-image.size) % 16])
        self.assertEqual(image.size, 18)
        run = self.through(Run(loaded, "main"))
        self.assertEqual([run.ended, run.outputs()], ["seen", [6]])


class TellingTest(Checks):
    def setUp(self):
        self.loaded = loaded_at(64, *WORK, libraries=[general_library(["far"])])
        self.run_ = Run(self.loaded, "main")
        self.layout = self.loaded.images()[0].layout

    def test_the_beginning(self):
        run = self.run_
        told = [run.ended, run.place(), run.frames(), run.registers(), run.outputs(), run.cell_frames()]
        self.assertEqual(told, ["", (0, "o", "", "main", 0, 0), [], [0, 0, 0], [], []])
        self.assertEqual([run.cell_place(), run.loaded.bases(), repr(run)], [run.place(), [64, 1088], "Run(running)"])
        self.assertTrue(run)

    def test_unknown_images_and_roots(self):
        for value in [-1, 2, "0", *all_odd_values()]:
            self.assertIs(raised(self, UnknownImage, Run, self.loaded, "nobody", image=value).at, value)
        for value in ["low", "d", *all_odd_values()]:
            self.assertIs(raised(self, UnknownRoot, Run, self.loaded, value).name, value)
        self.assertEqual(Run(loaded=self.loaded, name="far", image=1, early=True).place()[0], 1)

    def test_word_of(self):
        run = self.run_
        for word in (0, 1, 65535):
            self.assertEqual(run.word_of(word), word)
        low = 64 + self.layout.piece_offset(("o", "", "low"))
        self.assertEqual(run.word_of((0, ("o", "", "low"), 0)), low)
        self.assertEqual(run.word_of(value=(0, ("o", "", "d"), 3)), 64 + self.layout.piece_offset(("o", "", "d")) + 3)
        self.assertEqual(run.word_of((0, ("o", "", "low"), 65535)), low - 1)
        self.assertEqual(run.word_of((0, ("", "", "far"), 2)), 64 + 2)
        self.assertEqual(run.word_of((0, ("", "", "none"), 65535)), 64 + 4 - 1)
        key = self.loaded.images()[1].book.answer("far")
        self.assertEqual([run.word_of((1, key, 0)), run.word_of((1, key, 65536 - 1089))], [1088, 65535])
        run.opened(general_library(["a", "b"]), 16384)
        key = run.loaded.images()[2].book.answer("b")
        self.assertEqual(run.word_of((2, key, 1)), 16389)

    def test_entries_there_and_back(self):
        run = self.run_
        for address, (at, unit, member, piece, row) in self.loaded.entries().items():
            place = (at, unit, member, piece, 0, row)
            self.assertEqual([run.place_at(address), run.entry_of(place)], [place, address])
        entries = self.loaded.entries()
        for address in [0, 15, *range(64, 300), 1087, 1100, 65535]:
            if address not in entries:
                self.assertIsNone(run.place_at(address))

    def test_entries_of_other_values(self):
        run = self.run_
        place = run.place()
        wrong = [place[:5], (*place, 0), list(place), (2, *place[1:]), (-1, *place[1:]), (True, *place[1:]), (False, *place[1:])]
        wrong += [(*place[:5], True), (*place[:5], False), (*place[:5], 11), (*place[:5], -1), (*place[:4], 1, 0)]
        wrong += [(*place[:4], False, 0), (*place[:4], -1, 0), (0, "o", "", "d", 0, 0), (0, "", "", "far", 0, 0)]
        wrong += [(0, "o", None, "main", 0, 0), ("0", *place[1:]), (*place[:4], "0", "0"), 64, "o", *all_odd_values()]
        for value in wrong:
            self.assertIsNone(run.entry_of(value), value)
        for value in ["64", -64, 65536 + 64, (64,), 64 + 10**8, *all_odd_values()]:
            self.assertIsNone(run.place_at(value))
        self.assertEqual([run.entry_of(place=place), run.place_at(address=64 + 4)], [64 + self.layout.piece_offset(place[1:4]), None])

    def test_cell_place_and_frames_elsewhere(self):
        run = Run(loaded_at(64, "object o; outside far; code main 1 export; call far; halt; end"), "main")
        run.run()
        self.assertEqual([run.ended, run.cell_place(), run.cell_frames()], ["unbound", None, [(0, "o", "", "main", 0, 1)]])
        self.assertEqual([run.place(), run.frames()], [(0, "o", "", "main", 0, 0), [(0, "o", "", "main", 0, 1)]])

    def test_twins_of_the_machines(self):
        run = self.run_
        run.run(4)
        plain, machine, before = run.plain(), run.machine(), told_of(run)
        self.assertIsInstance(plain, Plain)
        self.assertIsInstance(machine, Machine)
        self.assertEqual([plain.place(), plain.registers()], [run.place(), run.registers()])
        plain.run()
        machine.write(64, [0] * 10)
        machine.run()
        self.assertEqual(told_of(run), before)
        self.through(run)
        self.assertEqual([run.ended, plain.outputs()], ["halt", run.outputs()])

    def test_loaded_now(self):
        library = general_library(["a"])
        self.assertEqual(self.run_.opened(library, 8192, ahead=True), 2)
        self.assertEqual(self.run_.loaded.images(), [*self.loaded.images(), library])
        self.assertEqual([self.run_.loaded.bases(), len(self.loaded)], [[64, 1088, 8192], 2])
        self.assertEqual(self.run_.plain().order(), [2, 0, 1])

    def test_a_machine_that_does_not_agree(self):
        # Nothing public can part the two machines, so that their cells are changed here.
        for change in (
            lambda machine: machine.write(64 + self.layout.piece_offset(("o", "", "d")), [9]),
            lambda machine: machine.step(),
        ):
            run = self.run_.twin()
            change(run._cells)
            self.assertIs(run.agrees(), False)
        run = self.run_.twin()
        run._rows.run(6)
        self.assertIs(run.agrees(), False)
        run = self.run_.twin()
        run.run(6)
        for change in (
            lambda state: state.printed.append(0),
            lambda state: state.stack.append(64),
            lambda state: state.stack.pop(),
            lambda state: state.held.insert(0, 9),
            lambda state: state.held.reverse(),
        ):
            twin = run.twin()
            self.assertIs(twin.agrees(), True)
            change(twin._cells._state)
            self.assertIs(twin.agrees(), False)
        twin = run.twin()
        twin._cells._state.held[3] = 7
        self.assertIs(twin.agrees(), True)
        for machine in ("_rows", "_cells"):
            # Both stand at the row halt, which one of them has done.
            run = Run(loaded_in("object o; code main 1 export; halt; end"), "main")
            getattr(run, machine).step()
            self.assertIs(run.agrees(), False)
        run = Run(loaded_in(DEEP), "main")
        run._cells.run()
        self.assertIs(run.agrees(), False)
        run._rows.run()
        self.assertIs(run.agrees(), True)
        run = Run(loaded_in("object o; code main 1 export; out r0; halt; end"), "main")
        run._cells.write(17, [0])
        run.run()
        self.assertEqual([run.ended, run.machine().ended, run.agrees()], ["halt", "room", False])


class RunTest(Checks):
    def test_counts(self):
        run = Run(loaded_at(64, *WORK, libraries=[general_library(["far"])]), "main")
        self.assertEqual([run.run(0), run.run(most=3), run.place()[5]], [0, 3, 3])
        many = run.run()
        self.assertEqual([run.ended, run.run(), run.agrees()], ["halt", 0, True])
        plain = Plain(run.loaded, "main")
        self.assertEqual(plain.run(), many + 3)

    def test_the_default_and_the_greatest(self):
        loaded = loaded_in("object o; code main 1 export; jump main; end")
        self.assertEqual([Run(loaded, "main").run(), Run(loaded, "main").run(2000)], [200, 2000])

    def test_wrong_numbers(self):
        run = Run(loaded_in("object o; code main 1 export; out r0; halt; end"), "main")
        for ended in (False, True):
            for most in [-1, 2001, "1", *all_odd_values()]:
                self.assertIs(raised(self, InvalidNumber, run.run, most).value, most)
            self.assertEqual(run.outputs(), [0] if ended else [])
            run.run()

    def test_run_to(self):
        loaded = loaded_in("object o; code main 1 export; out r0; call low; jump main; code low 1 local; out r1; back; end")
        run = Run(loaded, "main")
        low, main = (0, "o", "", "low", 0, 1), (0, "o", "", "main", 0, 0)
        self.assertEqual([run.run_to(low), run.place(), run.outputs()], [True, low, [0, 0]])
        self.assertEqual([run.run_to(main, 1), run.place()], [False, (0, "o", "", "main", 0, 2)])
        self.assertEqual([run.run_to(main, 1), run.place()], [True, main])
        # One row at least is done, also where it stands there already.
        self.assertEqual([run.run_to(place=main, most=5), run.place(), len(run.outputs())], [True, main, 4])
        self.assertEqual([run.run_to(main, most=4), run.place()], [False, (0, "o", "", "main", 0, 2)])
        self.assertIs(run.agrees(), True)

    def test_run_to_default(self):
        loaded = loaded_in("object o; code main 1 export; out r0; jump main; end")
        run = Run(loaded, "main")
        self.assertEqual([run.run_to((0, "o", "", "main", 0, 5)), len(run.outputs()), run.place()[5]], [False, 100, 0])
        run.step()
        self.assertEqual([run.run_to((0, "o", "", "main", 0, 5)), len(run.outputs()), run.place()[5]], [False, 201, 1])

    def test_run_to_what_never_comes(self):
        loaded = loaded_in("object o; code main 1 export; jump main; end")
        for place in [(0, "o", "", "main", 1, 0), (False, "o", "", "main", 0, 0), (0, "o", "", "main", 0, False), None, 5, ()]:
            run = Run(loaded, "main")
            self.assertIs(run.run_to(place, 3), False)
        run = Run(loaded_in("object o; code main 1 export; out r0; out r0; halt; end"), "main")
        self.assertIs(run.run_to((0, "o", "", "main", 0, 9)), False)
        self.assertEqual([run.ended, run.outputs()], ["halt", [0, 0]])

    def test_run_to_the_row_that_ends(self):
        run = Run(loaded_in("object o; code main 1 export; out r0; halt; end"), "main")
        halt = (0, "o", "", "main", 0, 1)
        self.assertIs(run.run_to(halt), True)
        # The row halt leaves the place as it was, but the run has ended.
        self.assertEqual([run.run_to(halt), run.place(), run.ended], [False, halt, "halt"])
        raised(self, Ended, run.run_to, halt, 0)

    def test_run_to_wrong_numbers(self):
        run = Run(loaded_in("object o; code main 1 export; out r0; halt; end"), "main")
        for most in [0, -1, 2001, "1", *all_odd_values()]:
            self.assertIs(raised(self, InvalidNumber, run.run_to, run.place(), most).value, most)
        self.assertEqual(run.outputs(), [])
        loaded = loaded_in("object o; code main 1 export; jump main; end")
        self.assertEqual(Run(loaded, "main").run_to((0, "o", "", "main", 0, 0), 2000), True)

    def test_beyond_the_end(self):
        for rows in ("halt", "out r0; back", "load r0 r0 0; halt"):
            run = Run(loaded_in(f"object o; code main 1 export; {rows}; end"), "main")
            run.run()
            before = told_of(run)
            raised(self, Ended, run.step)
            raised(self, Ended, run.run_to, run.place(), 0)
            raised(self, Ended, run.opened, None, 1)
            raised(self, Ended, run.rewrite, None, None, image=None)
            raised(self, Ended, run.take_back, None, image=None)
            self.assertEqual(told_of(run), before)

    def test_opened_errors(self):
        run = Run(loaded_at(64, *WORK), "main")
        library = general_library(["far"])
        before = told_of(run)
        for value in [7, *all_odd_values()]:
            self.assertEqual(raised(self, InvalidImage, run.opened, value, 1).at, 1)
        for base in [0, 8, 65536, "16", *all_odd_values()]:
            self.assertEqual(raised(self, InvalidBase, run.opened, library, base).at, 1)
        self.assertEqual(raised(self, Overlap, run.opened, library, 64).at, 1)
        self.assertEqual(told_of(run), before)
        for index in range(1, 5):
            self.assertEqual(run.opened(image=library, base=1024 * index, ahead=False), index)
        before = told_of(run)
        self.assertEqual(raised(self, InvalidImage, run.opened, library, 8192).at, 5)
        self.assertEqual(told_of(run), before)

    def test_what_returns_none(self):
        self.assertIsNone(Run(loaded_in(DEEP), "main").step())

    def test_returned_lists_are_new(self):
        run = Run(loaded_at(64, *WORK), "main")
        run.run(6)
        for told in (run.frames, run.registers, run.outputs, run.cell_frames):
            before = list(told())
            told().append(1)
            self.assertEqual(told(), before)

    def test_twins(self):
        run = Run(loaded_at(64, *WORK, libraries=[general_library(["far"])]), "main")
        run.run(3)
        run.opened(general_library(["a"]), 8192)
        twin, before = run.twin(), told_of(run)
        self.assertEqual(told_of(twin), before)
        twin.opened(general_library(["far"]), 4096, ahead=True)
        twin.rewrite(("o", "", "low"), [("halt",)])
        self.through(twin)
        self.assertEqual(told_of(run), before)
        after = told_of(twin)
        self.through(run)
        self.assertEqual(told_of(twin), after)
        self.assertEqual([run.outputs(), twin.outputs()], [[1, 5, 60000], []])

    def test_twins_with_editions_and_libraries(self):
        run = Run(loaded_at(64, *WORK), "main")
        run.opened(general_library(["far"]), 8192)
        low = ("o", "", "low")
        run.rewrite(low, [("out", "r1"), ("put", "r2", 0), ("back",)])
        run.run_to((0, *low, 1, 1))
        twin = run.twin()
        entry = run.entry_of((0, *low, 1, 2))
        self.assertEqual([twin.entry_of((0, *low, 1, 2)), twin.place_at(entry)], [entry, (0, *low, 1, 2)])
        self.assertEqual(twin.place_at(8192), (1, *run.loaded.images()[1].book.answer("far"), 0, 0))
        self.assertEqual(twin.rewrite(low, [("halt",)]), 2)
        twin.take_back(low)
        twin.take_back(low)
        self.assertEqual([twin.editions(low), run.editions(low), twin.place(), run.cell_place()], [[0], [0, 1], run.place(), run.place()])
        self.assertEqual(run.rewrite(low, [("halt",)]), 2)
        run.take_back(low)
        self.through(twin)
        self.through(run)
        self.assertEqual([run.ended, twin.ended], ["halt", "halt"])
        self.assertEqual([run.outputs(), twin.outputs()], [[5, 5, 5, 60000], [5, 5, 60000]])
        self.assertIsNone(run.entry_of((0, *low, 0, 1)))


if __name__ == "__main__":
    unittest.main()

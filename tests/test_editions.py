"""Editions: points [35] and [36], for the plain machine alone and for runs."""

import unittest

from leastimage.errors import (
    Ended,
    Full,
    InvalidRow,
    NotClosing,
    NotReplaced,
    TooMany,
    TooSmall,
    UnknownImage,
    UnknownPiece,
    Unlinked,
    Within,
)
from leastimage.images import image_of, link
from leastimage.libraries import general_library
from leastimage.loading import Loaded
from leastimage.plain import Plain
from leastimage.runs import Run

from common import all_odd_values, book_of, image_in, loaded_in, raised
from test_runs import Checks, told_of

# Rows of main: put at 0, out at 2, call at 3, jump at 4; low: put at 0, out at 2, back at 3.
LOOP = (
    "object o; outside far; code main 1 export; put r1 1; out r1; call low; jump main;",
    "code low 8 local; put r2 2; out r2; back; data d 1 local keep; word 6; end",
)
MAIN, LOW, D = ("o", "", "main"), ("o", "", "low"), ("o", "", "d")
NINE = [("put", "r0", 9), ("out", "r0"), ("back",)]


def spot(key, number, row, at=0):
    return (at, *key, number, row)


def run_of(*parts, base=64, **more):
    return Run(loaded_in(*parts, base=base, **more), "main")


def first_cells(run, key, many=3):
    """The first cells of a piece of the first image."""
    first = run.word_of((0, key, 0))
    return [run.machine().cell_at(first + at) for at in range(many)]


def leading_to(address):
    """The cells high r3, low r3 and jumpby r3 to an address, reckoned here."""
    high = (address + 128) // 256
    return [2 * 4096 + 3 * 1024 + high % 256, 3 * 4096 + 3 * 1024 + (address - 256 * high) % 256, 12 * 4096 + 3 * 1024]


class RewritingTest(Checks):
    def test_ahead_of_the_piece(self):
        run = run_of(*LOOP)
        end = 64 + run.loaded.images()[0].size
        room = (end + 15) // 16 * 16
        self.assertEqual(run.rewrite(LOW, NINE), 1)
        self.assertEqual(run.editions(LOW), [0, 1])
        self.assertEqual(run.editions(MAIN), [0])
        self.assertEqual(run.machine().ends(), [end, room + 4])
        self.assertEqual(first_cells(run, LOW), leading_to(room))
        told = [run.machine().cell_at(room + at) for at in range(4)]
        self.assertEqual(told, [2 * 4096, 3 * 4096 + 9, 15 * 4096, 14 * 4096])
        self.assertIs(run.agrees(), True)
        self.through(run, 9)
        self.assertEqual([run.outputs(), run.place()], [[1, 9, 1], spot(MAIN, 0, 2)])

    def test_at_the_first_row(self):
        run = run_of(*LOOP)
        entry = run.machine().place()
        self.assertEqual(run.rewrite(MAIN, [("put", "r0", 4), ("out", "r0"), ("halt",)]), 1)
        self.assertEqual([run.place(), run.machine().place()], [spot(MAIN, 1, 0), entry])
        self.assertEqual([run.entry_of(spot(MAIN, 1, 0)), run.place_at(entry)], [entry, spot(MAIN, 1, 0)])
        self.assertIsNone(run.entry_of(spot(MAIN, 0, 0)))
        self.through(run)
        self.assertEqual([run.outputs(), run.ended], [[4], "halt"])

    def test_in_the_middle(self):
        run = run_of(*LOOP)
        run.run_to(spot(MAIN, 0, 3))
        self.assertEqual(run.rewrite(MAIN, [("out", "r2"), ("call", "low"), ("halt",)]), 1)
        self.assertEqual(run.place(), spot(MAIN, 0, 3))
        self.through(run)
        self.assertEqual([run.outputs(), run.ended], [[1, 2, 2, 2], "halt"])

    def test_within_frames(self):
        run = run_of(*LOOP)
        run.run_to(spot(LOW, 0, 0))
        self.assertEqual(run.frames(), [spot(MAIN, 0, 3)])
        run.rewrite(MAIN, [("halt",)])
        self.assertEqual([run.frames(), run.cell_frames()], [[spot(MAIN, 0, 3)]] * 2)
        self.assertEqual(run.rewrite(LOW, NINE), 1)
        self.assertEqual(run.place(), spot(LOW, 1, 0))
        self.through(run)
        # The frame goes on in its own edition, and jumps to the newest one.
        self.assertEqual([run.outputs(), run.ended], [[1, 9], "halt"])
        self.assertEqual(run.place(), spot(MAIN, 1, 0))

    def test_twice(self):
        run = run_of(*LOOP)
        image = run.loaded.images()[0].cells(64)
        before = first_cells(run, LOW)
        self.assertEqual([run.rewrite(LOW, NINE), run.rewrite(LOW, [("out", "r0"), ("back",)])], [1, 2])
        rooms = run.machine().ends()
        self.assertEqual([run.editions(LOW), len(rooms)], [[0, 1, 2], 3])
        self.assertEqual(rooms[2], (rooms[1] + 15) // 16 * 16 + 2)
        self.assertEqual(first_cells(run, LOW), leading_to(rooms[2] - 2))
        self.through(run, 8)
        self.assertEqual(run.outputs(), [1, 0, 1])
        run.take_back(LOW)
        self.assertEqual([run.editions(LOW), first_cells(run, LOW)], [[0, 1], leading_to(rooms[1] - 4)])
        self.through(run, 8)
        run.take_back(key=LOW, image=0)
        self.assertEqual([run.editions(LOW), first_cells(run, LOW)], [[0], before])
        self.assertEqual([run.machine().cell_at(64 + at) for at in range(len(image))], image)
        self.through(run, 8)
        self.assertEqual(run.outputs(), [1, 0, 1, 9, 1, 2, 1])

    def test_numbers_are_never_used_twice(self):
        run = run_of(*LOOP)
        numbers = []
        for _ in range(3):
            numbers.append(run.rewrite(LOW, NINE))
            numbers.append(run.rewrite(LOW, NINE))
            run.take_back(LOW)
            run.take_back(LOW)
        self.assertEqual([numbers, run.editions(LOW)], [[1, 2, 3, 4, 5, 6], [0]])
        self.assertEqual([run.rewrite(MAIN, NINE), run.rewrite(LOW, NINE), run.editions(LOW)], [1, 7, [0, 7]])
        # Added rooms stay as they are.
        self.assertEqual(len(run.machine().ends()), 9)

    def test_taken_back_at_the_first_row(self):
        run = run_of(*LOOP)
        run.rewrite(MAIN, NINE)
        run.rewrite(MAIN, NINE)
        self.assertEqual(run.place(), spot(MAIN, 2, 0))
        run.take_back(MAIN)
        self.assertEqual([run.place(), run.cell_place()], [spot(MAIN, 1, 0)] * 2)
        run.take_back(MAIN)
        self.assertEqual([run.place(), run.cell_place()], [spot(MAIN, 0, 0)] * 2)
        self.through(run, 10)

    def test_taken_back_in_the_middle_and_within_frames(self):
        run = run_of(*LOOP)
        run.rewrite(MAIN, [("call", "low"), ("out", "r0"), ("jump", "main")])
        run.run_to(spot(LOW, 0, 0))
        self.assertEqual(run.frames(), [spot(MAIN, 1, 1)])
        run.take_back(MAIN)
        self.assertEqual([run.frames(), run.cell_frames()], [[spot(MAIN, 1, 1)]] * 2)
        self.assertEqual(run.run_to(spot(MAIN, 1, 2)), True)
        self.assertEqual([run.place_at(run.machine().place()), run.editions(MAIN)], [spot(MAIN, 1, 2), [0]])
        run.rewrite(MAIN, [("out", "r1"), ("halt",)])
        self.through(run)
        self.assertEqual([run.outputs(), run.place()], [[2, 0, 0], spot(MAIN, 2, 1)])

    def test_taken_back_in_a_twin_first(self):
        run = run_of(*LOOP)
        before = [run.machine().cell_at(address) for address in range(64, 96)]
        run.rewrite(LOW, NINE)
        run.rewrite(LOW, [("halt",)])
        twin = run.twin()
        for machine in (twin, run):
            machine.take_back(LOW)
            machine.take_back(LOW)
            self.assertEqual([machine.machine().cell_at(address) for address in range(64, 96)], before)
            self.through(machine, 20)

    def test_taken_back_and_run_on(self):
        run = run_of(*LOOP)
        run.rewrite(LOW, [("out", "r1"), ("out", "r1"), ("back",)])
        run.run_to(spot(LOW, 1, 1))
        run.take_back(LOW)
        self.through(run, 8)
        self.assertEqual(run.outputs()[:6], [1, 1, 1, 1, 2])

    def test_editions_that_call_themselves_and_stubs(self):
        run = run_of(*LOOP, base=4096)
        run.opened(general_library(["far"]), 16)
        # far is no needed stub here.
        self.assertEqual(raised(self, Unlinked, run.rewrite, LOW, [("call", "far"), ("back",)]).name, "far")
        image = image_in(*LOOP, roots=["main"])
        image = image_of(image.book, ["main"], image.needs() + [("stub", "far")])
        for early in (False, True):
            run = Run(Loaded(image, bases=[4096]), "main", early=early)
            run.rewrite(LOW, [("name", "r1", "far"), ("call", "far"), ("out", "r1"), ("halt",)])
            run.opened(general_library(["far"]), 16, ahead=True)
            self.through(run)
            self.assertEqual([run.outputs(), run.ended], [[1, 60000], "seen"])
        run = Run(Loaded(image, bases=[4096]), "main")
        run.rewrite(LOW, [("call", "low"), ("back",)])
        self.through(run)
        self.assertEqual([run.ended, len(run.frames()), run.machine().ended], ["deep", 30, "deep"])

    def test_each_row_in_its_long_form(self):
        rows = [("name", "r0", "d"), ("name", "r1", "low"), ("jump", "low"), ("ifzero", "r0", "low"), ("call", "low")]
        rows += [("put", "r0", 1), ("add", "r0", "r0"), ("load", "r0", "r0", 1), ("callby", "r0"), ("room", 7), ("halt",)]
        run = run_of(*LOOP)
        run.rewrite(MAIN, rows)
        room = run.machine().ends()[1]
        self.assertEqual(room % 16, (2 + 2 + 3 + 5 + 3 + 2 + 1 + 1 + 1 + 7 + 1) % 16)
        begin = room - 28
        sizes = [2, 2, 3, 5, 3, 2, 1, 1, 1, 7, 1]
        entries = [run.entry_of(spot(MAIN, 1, row)) for row in range(11)]
        self.assertEqual(entries, [64] + [begin + sum(sizes[:row]) for row in range(1, 11)])
        cells = [run.machine().cell_at(begin + 4 + at) for at in range(3)]
        self.assertEqual(cells, leading_to(run.word_of((0, LOW, 0))))

    def test_another_image(self):
        library = image_in("object l; code lib 2 open; put r0 3; out r0; back; end", roots=["lib"])
        run = Run(Loaded(image_in(*LOOP), library, bases=[64, 512]), "main")
        key = ("l", "", "lib")
        self.assertEqual([run.rewrite(key, NINE, image=1), run.editions(key, image=1), run.editions(MAIN)], [1, [0, 1], [0]])
        self.assertEqual(raised(self, UnknownPiece, run.rewrite, key, NINE).key, key)
        run.take_back(key, image=1)
        self.assertEqual(run.editions(key=key, image=1), [0])
        self.assertEqual(run.opened(library, 1024), 2)
        self.assertEqual([run.rewrite(key=key, rows=tuple(NINE), image=2), run.editions(key, image=2)], [1, [0, 1]])

    def test_the_rows_that_were_given(self):
        rows = list(NINE)
        run = run_of(*LOOP)
        run.rewrite(LOW, rows)
        rows[0] = ("put", "r0", 1)
        run.run_to(spot(MAIN, 0, 3))
        self.assertEqual(run.outputs(), [1, 9])
        run.editions(LOW).clear()
        self.assertEqual(run.editions(LOW), [0, 1])
        plain = run.plain()
        plain.rewrite(LOW, rows)
        rows.clear()
        plain.run()
        self.assertEqual(plain.outputs()[:4], [1, 9, 1, 1])

    def test_long_and_short_forms_at_several_bases(self):
        for reach in (4, 40):
            for base in (64, 32768, 61440):
                for early in (False, True):
                    run = Run(loaded_in(*LOOP, base=base, reach=reach), "main", early=early)
                    run.run(6)
                    run.rewrite(MAIN, [("call", "low"), ("name", "r0", "d"), ("load", "r0", "r0", 0), ("out", "r0"), ("halt",)])
                    self.through(run)
                    self.assertEqual([run.outputs(), run.ended], [[1, 2, 2, 6], "halt"])

    def test_what_returns_none(self):
        run = run_of(*LOOP)
        run.rewrite(LOW, NINE)
        self.assertIsNone(run.plain().take_back(LOW))
        self.assertIsNone(run.take_back(LOW))


class EntriesTest(Checks):
    TEXT = "object o; code main 1 export; out r0; out r1; out r2; call low; halt; code low 1 local; put r0 1; back; end"

    def test_the_second_and_third_cell(self):
        run = run_of(self.TEXT)
        run.run(4)
        self.assertEqual([run.entry_of(spot(MAIN, 0, row)) for row in range(5)], [64, 65, 66, 67, 68])
        run.rewrite(MAIN, [("out", "r0"), ("halt",)])
        room = run.machine().ends()[1] - 2
        self.assertEqual([run.entry_of(spot(MAIN, 0, row)) for row in range(5)], [None, None, None, 67, 68])
        told = [run.place_at(address) for address in range(64, 69)]
        self.assertEqual(told, [spot(MAIN, 1, 0), None, None, spot(MAIN, 0, 3), spot(MAIN, 0, 4)])
        self.assertEqual([run.entry_of(spot(MAIN, 1, row)) for row in range(3)], [64, room + 1, None])
        self.assertEqual([run.place_at(room), run.place_at(room + 1)], [None, spot(MAIN, 1, 1)])
        run.rewrite(MAIN, [("out", "r0"), ("halt",)])
        self.assertEqual([run.entry_of(spot(MAIN, 1, row)) for row in range(2)], [None, room + 1])
        self.assertEqual([run.entry_of(spot(MAIN, 2, row)) for row in range(2)], [64, room + 17])
        run.take_back(MAIN)
        run.take_back(MAIN)
        self.assertEqual([run.entry_of(spot(MAIN, 0, row)) for row in range(5)], [64, 65, 66, 67, 68])
        # Rows of editions that were taken back keep their entries, but for the first one.
        self.assertEqual([run.entry_of(spot(MAIN, 1, row)) for row in range(2)], [None, room + 1])
        self.assertEqual([run.entry_of(spot(MAIN, 2, row)) for row in range(2)], [None, room + 17])
        self.assertEqual(run.place_at(room + 17), spot(MAIN, 2, 1))
        self.assertIsNone(run.entry_of(spot(MAIN, 3, 0)))
        self.assertIsNone(run.entry_of(spot(MAIN, True, 1)))

    def test_long_first_rows(self):
        text = "object o; code main 1 export; ifzero r0 low; halt; code fill 1 local keep; room 50; halt; code low 1 local; back; end"
        run = run_of(text, reach=4)
        run.rewrite(MAIN, [("halt",)])
        self.assertEqual([run.entry_of(spot(MAIN, 0, row)) for row in range(2)], [None, 69])

    def test_the_words_of_addresses_stay(self):
        run = run_of("object o; code main 1 export; name r0 main; name r1 low; callby r1; halt; code low 1 local; out r2; put r2 1; back; end")
        word = run.word_of((0, LOW, 0))
        run.run(2)
        run.rewrite(LOW, NINE)
        self.assertEqual([run.word_of((0, LOW, 0)), run.entry_of(spot(LOW, 1, 0))], [word, word])
        self.through(run)
        self.assertEqual([run.outputs(), run.ended], [[9], "halt"])


class WithinTest(unittest.TestCase):
    TEXT = (
        "object o; code main 1 export; out r0; out r1; out r2; out r0; halt; code low 1 local keep; call main; call next;",
        "call main; call main; back; code next 1 local; call low; out r0; put r0 1; halt; end",
    )

    def test_the_place(self):
        for rows, inside in ((0, False), (1, True), (2, True), (3, False), (4, False)):
            run = run_of(*self.TEXT)
            run.run(rows)
            for machine in (run.plain(), run):
                if inside:
                    found = raised(self, Within, machine.rewrite, MAIN, NINE).spot
                    self.assertEqual(found, spot(MAIN, 0, rows))
                else:
                    self.assertEqual(machine.rewrite(MAIN, NINE), 1)

    def test_frames_from_the_oldest_on_and_then_the_place(self):
        text = "object o; code main 1 export; call low; call two; halt; code low 1 local; out r0; back; "
        run = run_of(text + "code two 1 local; out r1; call main; back; end")
        run.run(6)
        self.assertEqual(run.frames(), [spot(MAIN, 0, 2), spot(("o", "", "two"), 0, 2)])
        run.step()
        self.assertEqual(run.frames()[2], spot(MAIN, 0, 1))
        before = told_of(run)
        self.assertEqual(raised(self, Within, run.rewrite, MAIN, NINE).spot, spot(MAIN, 0, 2))
        self.assertEqual(told_of(run), before)
        run.run(2)
        self.assertEqual([run.place(), len(run.frames())], [spot(MAIN, 0, 1), 2])
        self.assertEqual(raised(self, Within, run.rewrite, MAIN, NINE).spot, spot(MAIN, 0, 2))

    def test_a_younger_frame_and_the_place(self):
        run = run_of("object o; code main 1 export; call low; out r0; jump main; code low 1 local; put r0 1; call main; back; end")
        run.run(4)
        self.assertEqual(run.frames(), [spot(MAIN, 0, 1), spot(LOW, 0, 2), spot(MAIN, 0, 1)])
        self.assertEqual(raised(self, Within, run.rewrite, MAIN, NINE).spot, spot(MAIN, 0, 1))
        self.assertEqual(run.rewrite(LOW, NINE), 1)
        self.assertEqual(run.place(), spot(LOW, 1, 0))
        text = "object o; code main 1 export; put r0 3; call low; halt; code low 1 local; out r0; out r0; call main; back; end"
        run = run_of(text)
        run.run(3)
        self.assertEqual([run.place(), run.frames()], [spot(LOW, 0, 1), [spot(MAIN, 0, 2)]])
        self.assertEqual(raised(self, Within, run.rewrite, LOW, NINE).spot, spot(LOW, 0, 1))
        self.assertEqual(run.rewrite(MAIN, NINE), 1)

    def test_rows_of_other_editions_and_pieces_do_not_count(self):
        run = run_of(*self.TEXT)
        run.rewrite(MAIN, [("put", "r0", 3), ("out", "r0"), ("out", "r0"), ("halt",)])
        run.run(2)
        self.assertEqual(run.place(), spot(MAIN, 1, 2))
        self.assertEqual(run.rewrite(MAIN, NINE), 2)
        run.take_back(MAIN)
        run.take_back(MAIN)
        self.assertEqual([run.place(), run.cell_place()], [spot(MAIN, 1, 2)] * 2)
        self.assertEqual(run.rewrite(MAIN, NINE), 3)
        self.assertIs(run.agrees(), True)

    def test_another_image_with_the_same_keys(self):
        text = self.TEXT
        image = image_in(*text)
        run = Run(Loaded(image, image, bases=[64, 512]), "main", image=1)
        run.step()
        self.assertEqual(run.rewrite(MAIN, NINE), 1)
        self.assertEqual(raised(self, Within, run.rewrite, MAIN, NINE, image=1).spot, spot(MAIN, 0, 1, at=1))

    def test_the_cells_count_not_the_rows(self):
        run = run_of("object o; code main 1 export; put r0 1; put r1 1; halt; end")
        run.step()
        self.assertEqual(raised(self, Within, run.rewrite, MAIN, NINE).spot, spot(MAIN, 0, 1))
        run.step()
        self.assertEqual(run.rewrite(MAIN, NINE), 1)


class RefusedTest(unittest.TestCase):
    TEXT = (
        "object o; outside far; outside gone; code main 1 export; name r0 d; call far; call lib; call low; jump small;",
        "code low 1 local; put r0 1; back; code dead 1 local; halt; code small 1 local; back; code two 1 local keep; out r0; back;",
        "data d 1 weak; word 1; data cold 1 local; end; object p; code low 1 export; halt; code lib 1 open; back; end",
    )

    def setUp(self):
        self.run_ = run_of(*self.TEXT)
        self.machines = [self.run_.plain(), self.run_]

    def refused(self, error, *values, **more):
        """The error of rewrite, alike for both kinds, which changes nothing."""
        before = told_of(self.run_)
        found = [raised(self, error, machine.rewrite, *values, **more) for machine in self.machines]
        self.assertEqual(vars(found[0]), vars(found[1]))
        self.assertEqual(told_of(self.run_), before)
        return found[0]

    def test_images(self):
        for image in [1, -1, "0", *all_odd_values()]:
            self.assertIs(self.refused(UnknownImage, None, None, image=image).at, image)
            for machine in self.machines:
                self.assertIs(raised(self, UnknownImage, machine.take_back, None, image=image).at, image)
                self.assertIs(raised(self, UnknownImage, machine.editions, None, image=image).at, image)

    def test_pieces(self):
        wrong = [("o", "", "d"), ("o", "", "dead"), ("p", "", "low"), ("o", "", "x"), ["o", "", "low"], ("o", "low")]
        for key in [*wrong, "low", (*LOW, 0), *all_odd_values()]:
            self.assertIs(self.refused(UnknownPiece, key, None).key, key)
            for machine in self.machines:
                self.assertIs(raised(self, UnknownPiece, machine.take_back, key).key, key)
                self.assertIs(raised(self, UnknownPiece, machine.editions, key).key, key)

    def test_rows(self):
        for rows in [None, True, 5, "halt", LOW, [("put", "r0", 1)] * 17, [()] * 17, [("jump", "cold"), ("word", 1)]]:
            if not isinstance(rows, (list, tuple)):
                self.assertEqual(self.refused(InvalidRow, LOW, rows).at, -1)
            elif len(rows) > 16:
                self.assertEqual(self.refused(TooMany, LOW, rows).most, 16)
        for wrong in [*all_odd_values(), ("word", 1), ("address", "d"), ("put", "r3", 1), ["halt"], ("put", "r0", True)]:
            self.assertEqual(self.refused(InvalidRow, LOW, [("jump", "nobody"), wrong, None]).at, 1)
        for rows in [[], (), [("call", "nobody")], [("halt",), ("out", "r0")]]:
            self.refused(NotClosing, LOW, rows)
        full = [("out", "r0")] * 15 + [("halt",)]
        self.assertEqual(self.run_.rewrite(LOW, full), 1)

    def test_targets(self):
        """Live pieces and needed stubs; no data to go to."""
        for row, name in (
            (("name", "r0", "nobody"), "nobody"),
            (("jump", "nobody"), "nobody"),
            (("call", "dead"), "dead"),
            (("name", "r0", "dead"), "dead"),
            (("name", "r0", "cold"), "cold"),
            (("call", "gone"), "gone"),
            (("name", "r0", "gone"), "gone"),
            (("jump", "d"), "d"),
            (("ifzero", "r0", "d"), "d"),
            (("call", "d"), "d"),
        ):
            error = self.refused(Unlinked, LOW, [("call", "low"), ("name", "r1", "d"), row, ("jump", "zzz")])
            self.assertEqual([error.name, error.at], [name, 2])
        for row in (("name", "r0", "d"), ("name", "r0", "far"), ("call", "far"), ("jump", "lib"), ("ifzero", "r1", "low")):
            self.assertEqual(self.run_.twin().rewrite(LOW, [row, ("jump", "main")]), 1)

    def test_targets_are_found_for_the_object_of_the_piece(self):
        run = run_of(
            "object o; code main 1 export; call x; call low; jump y; code low 1 local; put r0 1; out r0; back; end;",
            "object p; code x 1 export; call low; back; code low 1 local; put r0 2; out r0; back; code y 1 export; out r1; halt; end",
        )
        run.rewrite(("p", "", "low"), [("put", "r0", 3), ("out", "r0"), ("back",)])
        run.rewrite(MAIN, [("call", "low"), ("call", "x"), ("halt",)])
        run.run()
        self.assertEqual([run.outputs(), run.agrees()], [[1, 3], True])

    def test_small_pieces(self):
        for name in ("small", "two"):
            key = ("o", "", name)
            self.assertEqual(self.refused(TooSmall, key, [("halt",)]).key, key)
        self.assertEqual(self.run_.rewrite(LOW, [("halt",)]), 1)

    def test_the_size_is_that_of_the_forms(self):
        text = "object o; code main 1 export; jump low; code low 1 local; back; code fill 1 local keep; room 90; halt; end"
        self.assertEqual(raised(self, TooSmall, run_of(text).rewrite, MAIN, [("halt",)]).key, MAIN)
        book = book_of(text)
        image = link(book, ["main"])
        long = image_of(book, ["main"], image.needs() + [("long", *MAIN, 0)])
        self.assertEqual(Run(Loaded(long, bases=[64]), "main").rewrite(MAIN, [("halt",)]), 1)
        text = "object o; code main 1 export; room 3; halt; code low 1 local keep; room 2; halt; end"
        self.assertEqual([run_of(text).rewrite(MAIN, [("halt",)]), run_of(text).rewrite(LOW, [("halt",)])], [1, 1])

    def test_several_at_once(self):
        self.refused(InvalidRow, ("o", "", "small"), [("jump", "nobody"), None])
        self.refused(Unlinked, ("o", "", "small"), [("jump", "nobody")])
        self.refused(UnknownPiece, ("o", "", "x"), 7)
        run = run_of("object o; code main 1 export; out r0; halt; code low 1 local keep; out r0; back; end", base=65520)
        run.step()
        self.assertEqual(raised(self, TooSmall, run.rewrite, MAIN, [("halt",)]).key, MAIN)
        run = run_of("object o; code main 1 export; out r0; out r1; halt; end", base=65520)
        run.step()
        self.assertEqual(raised(self, Within, run.rewrite, MAIN, [("halt",)]).spot, spot(MAIN, 0, 1))

    def test_full(self):
        text = "object o; code main 1 export; out r0; out r1; halt; end"
        run = run_of(text, base=65520)
        before = told_of(run)
        raised(self, Full, run.rewrite, MAIN, [("halt",)])
        self.assertEqual(told_of(run), before)
        self.assertEqual(run.plain().rewrite(MAIN, [("halt",)]), 1)
        run = run_of(text, base=65536 - 32)
        raised(self, Full, run.rewrite, MAIN, [("room", 16), ("halt",)])
        self.assertEqual(run.rewrite(MAIN, [("room", 15), ("halt",)]), 1)
        self.assertEqual(run.machine().ends(), [65520, 65536])
        before = told_of(run)
        raised(self, Full, run.rewrite, MAIN, [("halt",)])
        run.take_back(MAIN)
        raised(self, Full, run.rewrite, MAIN, [("halt",)])
        self.assertEqual(run.editions(MAIN), [0])

    def test_a_refused_rewriting_uses_no_number(self):
        self.refused(Unlinked, LOW, [("jump", "nobody")])
        self.assertEqual(self.run_.rewrite(LOW, [("halt",)]), 1)

    def test_nothing_to_take_back(self):
        for machine in self.machines:
            self.assertEqual(raised(self, NotReplaced, machine.take_back, LOW).key, LOW)
            machine.rewrite(LOW, [("halt",)])
            machine.take_back(LOW)
            self.assertEqual(raised(self, NotReplaced, machine.take_back, LOW).key, LOW)
            self.assertEqual(machine.editions(LOW), [0])

    def test_ended(self):
        run = run_of("object o; code main 1 export; put r0 1; halt; end")
        run.rewrite(MAIN, NINE)
        run.run()
        for machine in (run, run.plain()):
            raised(self, Ended, machine.rewrite, MAIN, NINE)
            raised(self, Ended, machine.rewrite, None, None, image=5)
            raised(self, Ended, machine.take_back, MAIN)
            self.assertEqual(machine.editions(MAIN), [0, 1])


class PlainTest(unittest.TestCase):
    def test_a_plain_machine_alone(self):
        plain = Plain(loaded_in(*LOOP), "main")
        self.assertEqual([plain.rewrite(LOW, NINE), plain.editions(LOW)], [1, [0, 1]])
        plain.run(6)
        self.assertEqual([plain.place(), plain.outputs()], [spot(MAIN, 0, 3), [1, 9]])
        self.assertEqual(plain.rewrite(MAIN, [("out", "r0"), ("halt",)], image=0), 1)
        plain.step()
        self.assertEqual(plain.place(), spot(MAIN, 1, 0))
        plain.take_back(MAIN)
        self.assertEqual([plain.place(), plain.editions(MAIN)], [spot(MAIN, 0, 0), [0]])
        self.assertEqual(plain.rewrite(key=MAIN, rows=[("halt",)]), 2)
        plain.run()
        self.assertEqual([plain.ended, plain.place()], ["halt", spot(MAIN, 2, 0)])

    def test_no_room_is_needed(self):
        plain = Plain(loaded_in(*LOOP, base=65536 - 32), "main")
        self.assertEqual([plain.rewrite(LOW, [("room", 120)] * 15 + [("halt",)]) for _ in range(5)], [1, 2, 3, 4, 5])


if __name__ == "__main__":
    unittest.main()

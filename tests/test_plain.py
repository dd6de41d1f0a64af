"""The plain machine: points [30] to [32], leastimage/plain.py."""

import copy
import unittest

from leastimage.errors import (
    Ended,
    InvalidNumber,
    UnknownImage,
    UnknownPiece,
    UnknownRoot,
)
from leastimage.libraries import general_library
from leastimage.loading import Loaded
from leastimage.plain import Plain

from common import all_odd_values, image_in, loaded_in, raised

MAIN = ("o", "", "main")
D = ("o", "", "d")
E = ("o", "", "e")
DATA = "data d 1 local keep; word 7; address main; room 2; address far; data e 1 local keep; word 65535; data f 1 local keep;"
DATA += "data g 1 local"


def program(rows, rest=""):
    """The text of an object whose piece main has these rows and then stops."""
    return f"object o; outside far; outside gone; code main 1 export; {rows}; halt; {rest}{DATA}; end"


def plain_of(rows, rest="", **more):
    return Plain(loaded_in(program(rows, rest)), "main", **more)


def done(rows, many, rest=""):
    """The plain machine behind so many rows."""
    plain = plain_of(rows, rest)
    for _ in range(many):
        plain.step()
    return plain


def at(row, piece="main", number=0):
    return (0, "o", "", piece, number, row)


class Checks(unittest.TestCase):
    def goes_on(self, rows, registers, many=None):
        """The values of the registers behind some rows that do not end the run."""
        many = rows.count(";") + 1 if many is None else many
        plain = done(rows, many)
        self.assertEqual([plain.ended, plain.registers(), plain.place()], ["", registers, at(many)], rows)
        return plain

    def ends(self, rows, word, rest=""):
        """The last of some rows ends the run, which leaves everything as it was."""
        many = rows.count(";")
        ahead = done(rows, many, rest)
        plain = done(rows, many + 1, rest)
        self.assertEqual([ahead.ended, plain.ended], ["", word], rows)
        for told in ("place", "frames", "registers", "outputs", "bound"):
            self.assertEqual(getattr(plain, told)(), getattr(ahead, told)(), (rows, told))
        for key in (D, E):
            self.assertEqual(plain.content(key), ahead.content(key))
        return plain


class BeginningTest(unittest.TestCase):
    def test_the_state(self):
        plain = plain_of("out r0")
        self.assertEqual([plain.ended, plain.place(), plain.frames(), plain.registers()], ["", at(0), [], [0, 0, 0]])
        self.assertEqual([plain.outputs(), plain.order(), plain.bound()], [[], [0], {}])
        self.assertEqual(repr(plain), "Plain(running)")
        self.assertTrue(plain)

    def test_contents(self):
        plain = plain_of("out r0")
        self.assertEqual(plain.content(D), [7, (0, MAIN, 0), 0, 0, (0, ("", "", "far"), 0)])
        self.assertEqual([plain.content(E), plain.content(("o", "", "f"), image=0)], [[65535], []])

    def test_members_and_other_images(self):
        image = image_in(
            "archive l; object m; code x 1 export; name r1 t; back; data t 1 local; address t; end; end", roots=["x"]
        )
        loaded = Loaded(general_library(["a"]), image, bases=[16, 64])
        plain = Plain(loaded, "x", image=1)
        self.assertEqual(plain.place(), (1, "l", "m", "x", 0, 0))
        self.assertEqual(plain.content(("l", "m", "t"), image=1), [(1, ("l", "m", "t"), 0)])
        plain.step()
        self.assertEqual(plain.registers(), [0, (1, ("l", "m", "t"), 0), 0])

    def test_the_name_may_be_another_export(self):
        plain = plain_of("call other", "code other 1 export; back; ")
        self.assertEqual(Plain(loaded_in(program("call other", "code other 1 export; back; ")), "other").place()[3], "other")
        self.assertEqual(plain.place(), at(0))

    def test_unknown_images_and_roots(self):
        loaded = loaded_in(program("call low", "code low 1 local; back; "))
        for value in [-1, 1, 2, "0", *all_odd_values(), True, False]:
            self.assertIs(raised(self, UnknownImage, Plain, loaded, "nobody", image=value).at, value)
        for value in [*all_odd_values(), "low", "d", "far", "o", 0, ("main",), ["main"]]:
            self.assertIs(raised(self, UnknownRoot, Plain, loaded, value).name, value)
        library = general_library(["lib"])
        two = Loaded(image_in(program("out r0")), library, bases=[16, 128])
        self.assertEqual(raised(self, UnknownRoot, Plain, two, "lib", image=0).name, "lib")
        self.assertEqual(Plain(loaded=two, name="lib", image=1, early=True).place()[0], 1)

    def test_returned_lists_and_dicts_are_new(self):
        plain = Plain(Loaded(image_in(program("call far; out r0; call main")), general_library(["far"]), bases=[16, 512]), "main")
        plain.run(6)
        for told in (plain.frames, plain.registers, plain.outputs, plain.order, plain.bound):
            before = copy.copy(told())
            told().clear()
            self.assertTrue(before)
            self.assertEqual(told(), before)
        plain.content(D).clear()
        self.assertEqual(len(plain.content(D)), 5)


class RowsTest(Checks):
    def test_put(self):
        self.goes_on("put r0 65535", [65535, 0, 0])
        self.goes_on("put r1 1; put r2 2; put r1 0", [0, 0, 2])

    def test_name(self):
        self.goes_on("name r0 d; name r1 main; name r2 far", [(0, D, 0), (0, MAIN, 0), (0, ("", "", "far"), 0)])

    def test_add(self):
        self.goes_on("put r0 65535; put r1 2; add r0 r1", [1, 2, 0])
        self.goes_on("put r0 40000; add r0 r0", [14464, 0, 0])
        self.goes_on("name r0 d; put r1 65535; add r0 r1; add r0 r1", [(0, D, 65534), 65535, 0])
        self.goes_on("put r0 3; name r1 far; add r0 r1", [(0, ("", "", "far"), 3), (0, ("", "", "far"), 0), 0])

    def test_add_that_nobody_can_tell(self):
        self.ends("name r0 d; add r0 r0", "seen")
        self.ends("name r0 d; name r1 main; add r0 r1", "seen")

    def test_take(self):
        self.goes_on("put r1 1; take r0 r1", [65535, 1, 0])
        self.goes_on("name r0 d; put r1 1; take r0 r1", [(0, D, 65535), 1, 0])
        self.goes_on("name r0 d; name r1 d; put r2 2; add r0 r2; take r0 r1", [2, (0, D, 0), 2])
        self.goes_on("name r0 d; name r1 d; put r2 2; add r1 r2; take r0 r1", [65534, (0, D, 2), 2])
        self.goes_on("name r2 far; take r2 r2", [0, 0, 0])

    def test_take_that_nobody_can_tell(self):
        self.ends("name r0 d; name r1 e; take r0 r1", "seen")
        self.ends("name r1 d; take r0 r1", "seen")
        self.ends("name r0 main; name r1 far; take r0 r1", "seen")

    def test_load(self):
        self.goes_on("name r1 d; load r0 r1 0; load r2 r1 1; load r1 r1 4", [7, (0, ("", "", "far"), 0), (0, MAIN, 0)])
        self.goes_on("name r1 e; load r1 r1 0", [0, 65535, 0])
        self.goes_on("name r1 d; put r0 65535; add r1 r0; load r2 r1 1", [65535, (0, D, 65535), 7])
        self.goes_on("name r1 d; put r0 4; add r1 r0; load r0 r1 0", [(0, ("", "", "far"), 0), (0, D, 4), 0])

    def test_load_from_outside(self):
        for rows in ("load r0 r1 0", "put r1 16; load r0 r1 0", "name r1 main; load r0 r1 0", "name r1 far; load r0 r1 0"):
            self.ends(rows, "outside")
        for rows in ("name r1 d; load r0 r1 5", "name r1 d; load r0 r1 15", "name r1 e; load r0 r1 1"):
            self.ends(rows, "outside")
        self.ends("name r1 f; load r0 r1 0", "outside")
        self.ends("name r1 d; put r2 1; take r1 r2; load r0 r1 0", "outside")
        self.ends("name r1 d; put r2 5; add r1 r2; load r0 r1 0", "outside")

    def test_store(self):
        plain = self.goes_on("put r0 9; name r1 d; store r0 r1 0; store r1 r1 3", [9, (0, D, 0), 0])
        self.assertEqual(plain.content(D), [9, (0, MAIN, 0), 0, (0, D, 0), (0, ("", "", "far"), 0)])
        plain = self.goes_on("put r0 65535; name r1 e; add r1 r0; store r0 r1 1", [65535, (0, E, 65535), 0])
        self.assertEqual(plain.content(E), [65535])
        plain = self.goes_on("name r1 e; store r0 r1 0; load r1 r1 0", [0, 0, 0])
        self.assertEqual(plain.content(E), [0])

    def test_store_outside(self):
        for rows in ("put r1 300; store r0 r1 0", "name r1 main; store r0 r1 0", "name r1 e; store r0 r1 1"):
            self.ends(rows, "outside")
        self.ends("name r1 far; store r0 r1 0", "outside")
        self.ends("name r1 d; store r0 r1 5", "outside")
        self.ends("name r2 f; store r0 r2 0", "outside")

    def test_jump(self):
        plain = done("put r0 1; jump main", 2)
        self.assertEqual([plain.place(), plain.registers()], [at(0), [1, 0, 0]])
        self.assertEqual(done("jump low", 1, "code low 1 local; back; ").place(), at(0, "low"))

    def test_ifzero(self):
        low = "code low 1 local; back; "
        self.assertEqual(done("ifzero r2 low", 1, low).place(), at(0, "low"))
        self.assertEqual(done("put r2 1; ifzero r2 low", 2, low).place(), at(2))
        self.assertEqual(done("put r1 65535; ifzero r1 low", 2, low).place(), at(2))
        # Addresses in place are never 0.
        for name in ("d", "main", "far", "low", "e"):
            self.assertEqual(done(f"name r0 {name}; ifzero r0 low", 2, low).place(), at(2))
        rows = "name r0 d; put r1 4; add r0 r1; ifzero r0 low"
        self.assertEqual(done(rows, 4, low).place(), at(4))

    def test_ifzero_of_addresses_that_are_not_in_place(self):
        for name, word in (("d", 5), ("d", 65535), ("main", 1), ("far", 1), ("e", 1)):
            self.ends(f"name r0 {name}; put r1 {word}; add r0 r1; ifzero r0 main", "seen")
        self.ends("name r0 f; ifzero r0 main", "seen")

    def test_call_and_back(self):
        plain = done("call low; out r1", 1, "code low 1 local; put r1 5; back; ")
        self.assertEqual([plain.place(), plain.frames()], [at(0, "low"), [at(1)]])
        plain.step()
        plain.step()
        self.assertEqual([plain.place(), plain.frames()], [at(1), []])
        plain.run()
        self.assertEqual([plain.outputs(), plain.ended], [[5], "halt"])

    def test_frames_from_the_oldest_on(self):
        low = "code low 1 local; out r0; call deep; back; code deep 1 local; call low; halt; "
        plain = done("call low", 4, low)
        self.assertEqual(plain.frames(), [at(1), at(2, "low"), at(1, "deep")])

    def test_callby(self):
        plain = done("name r2 low; callby r2", 2, "code low 1 local; back; ")
        self.assertEqual([plain.place(), plain.frames()], [at(0, "low"), [at(2)]])
        plain = done("name r0 main; put r1 1; add r0 r1; take r0 r1; callby r0", 5)
        self.assertEqual([plain.place(), plain.frames()], [at(0), [at(5)]])

    def test_callby_from_outside(self):
        self.ends("callby r0", "outside")
        self.ends("put r1 16; callby r1", "outside")
        self.ends("name r1 d; callby r1", "outside")
        self.ends("name r1 f; callby r1", "outside")
        self.ends("name r1 main; put r0 1; add r1 r0; callby r1", "outside")
        self.ends("name r1 far; put r0 1; add r1 r0; callby r1", "outside")
        self.ends("name r1 far; put r0 1; take r1 r0; callby r1", "outside")

    def test_thirty_frames(self):
        plain = plain_of("call main")
        self.assertEqual([plain.run(), plain.ended], [31, "deep"])
        self.assertEqual([plain.frames(), plain.place()], [[at(1)] * 30, at(0)])
        plain = plain_of("name r0 main; callby r0")
        self.assertEqual([plain.run(), plain.ended], [62, "deep"])
        self.assertEqual([len(plain.frames()), plain.place()], [30, at(1)])
        plain = done("call main", 30)
        self.assertEqual([plain.ended, len(plain.frames())], ["", 30])

    def test_outside_comes_ahead_of_deep(self):
        # The piece more calls itself until n is 0, and then goes to last.
        rows = "call more"
        more = "code more 1 local; name r1 n; load r0 r1 0; put r2 1; add r0 r2; store r0 r1 0; ifzero r0 last; "
        more += "call more; halt; code last 1 local; callby r0; halt; data n 1 local; word 65506; "
        plain = plain_of(rows, more)
        plain.run(2000)
        self.assertEqual([plain.ended, len(plain.frames()), plain.place()], ["outside", 30, at(0, "last")])

    def test_deep_comes_ahead_of_binding(self):
        rows = "name r1 e; load r0 r1 0; ifzero r0 last; put r2 1; add r0 r2; store r0 r1 0; call main"
        text = f"object o; outside far; code main 1 export; {rows}; halt; code last 1 local; call far; halt; "
        text += "data e 1 local; word 65506; end"
        plain = Plain(Loaded(image_in(text), general_library(["far"]), bases=[16, 512]), "main")
        plain.run(2000)
        self.assertEqual([plain.ended, len(plain.frames()), plain.bound()], ["deep", 30, {}])

    def test_back_without_frames(self):
        plain = Plain(loaded_in("object o; code main 1 export; out r0; back; end"), "main")
        self.assertEqual([plain.run(), plain.ended, plain.place(), plain.outputs()], [2, "done", at(1), [0]])

    def test_out(self):
        plain = done("out r0; put r1 65535; out r1; out r1", 4)
        self.assertEqual([plain.outputs(), plain.ended], [[0, 65535, 65535], ""])
        self.ends("put r1 3; out r1; name r0 d; out r0", "seen")
        self.ends("name r0 far; out r0", "seen")

    def test_halt_and_room(self):
        plain = plain_of("put r0 1")
        self.assertEqual([plain.run(), plain.ended, plain.place(), plain.registers()], [2, "halt", at(1), [1, 0, 0]])
        for many in (1, 120):
            self.ends(f"put r0 1; room {many}", "room")


class StubsTest(Checks):
    def test_unbound(self):
        self.ends("put r0 1; jump gone", "unbound")
        self.ends("ifzero r0 gone", "unbound")

    def test_a_frame_that_was_added_stays(self):
        for rows, many in (("call gone", 1), ("name r1 gone; callby r1", 2)):
            plain = done(rows, many)
            told = [plain.ended, plain.place(), plain.frames(), plain.bound()]
            self.assertEqual(told, ["unbound", at(many - 1), [at(many)], {}])

    def test_late(self):
        loaded = Loaded(image_in(program("name r0 far; call far; call far")), general_library(["far"]), bases=[16, 512])
        plain = Plain(loaded, "main")
        key = loaded.images()[1].book.answer("far")
        plain.step()
        self.assertEqual(plain.bound(), {})
        plain.step()
        self.assertEqual([plain.bound(), plain.place()], [{(0, "far"): (1, key)}, (1, *key, 0, 0)])
        self.assertEqual([plain.run(), plain.ended, plain.outputs()], [8, "halt", [60000, 60000]])
        self.assertEqual(plain.frames(), [])

    def test_early(self):
        far = image_in("object l; outside main; outside nobody; code far 1 export; call main; call nobody; halt; end", roots=["far"])
        loaded = Loaded(image_in(program("call far; call gone")), far, bases=[16, 512])
        told = {(0, "far"): (1, ("l", "", "far")), (1, "main"): (0, MAIN)}
        plain = Plain(loaded, "main", early=True)
        self.assertEqual(list(plain.bound().items()), list(told.items()))
        self.assertEqual(Plain(loaded, "main", early=False).bound(), {})

    def test_bound_stubs_are_told_in_ascending_order(self):
        library = image_in("object l; outside main; code far 1 open; call gone; call main; halt; code gone 1 open; back; end", roots=["far"])
        plain = Plain(Loaded(image_in(program("call gone; call far")), library, bases=[16, 512]), "main")
        plain.run(8)
        told = [(0, "far"), (0, "gone"), (1, "gone"), (1, "main")]
        self.assertEqual(list(plain.bound()), told)
        self.assertEqual([plain.bound()[stub][0] for stub in told], [1, 1, 1, 0])

    def test_the_first_exporter(self):
        one, other = general_library(["far"]), general_library(["x", "far"])
        main = image_in(program("call far"))
        for images, word in (([main, one, other], 60000), ([main, other, one], 60001), ([other, one, main], 60001)):
            plain = Plain(Loaded(*images, bases=[512, 1024, 2048]), "main", image=images.index(main))
            plain.run()
            self.assertEqual(plain.outputs(), [word])

    def test_a_piece_of_the_same_image(self):
        plain = Plain(loaded_in("object o; code main 1 export; jump main; code far 1 open; call far; halt; end", roots=["far"]), "far")
        plain.step()
        self.assertEqual(plain.bound(), {(0, "far"): (0, ("o", "", "far"))})
        self.assertEqual(plain.place(), at(0, "far"))

    def test_addresses_of_stubs_are_not_those_of_their_pieces(self):
        text = "object o; code main 1 export; name r0 far; name r1 t; load r1 r1 0; take r0 r1; out r0; halt; "
        plain = Plain(loaded_in(text + "code far 1 open; back; data t 1 local; address far; end"), "main")
        plain.run()
        self.assertEqual([plain.ended, plain.outputs()], ["halt", [0]])
        text = "object o; code main 1 export; name r0 far; callby r0; halt; code far 1 open; name r1 main; take r0 r1; halt; end"
        plain = Plain(loaded_in(text), "main")
        plain.run()
        self.assertEqual([plain.ended, plain.place()], ["seen", at(1, "far")])


class OpenedTest(unittest.TestCase):
    def test_the_order(self):
        plain = plain_of("call far; call far")
        libraries = [general_library([name]) for name in ("a", "b", "c")]
        told = [plain.opened(libraries[0]), plain.opened(libraries[1], ahead=True), plain.opened(libraries[2], ahead=False)]
        self.assertEqual([told, plain.order()], [[1, 2, 3], [2, 0, 1, 3]])

    def test_late_and_early(self):
        for early, told in ((False, [60001, 60001]), (True, [60000, 60000])):
            loaded = Loaded(image_in(program("call far; call far")), general_library(["far"]), bases=[16, 512])
            plain = Plain(loaded, "main", early=early)
            self.assertEqual(plain.opened(general_library(["x", "far"]), ahead=True), 2)
            plain.run()
            self.assertEqual(plain.outputs(), told)

    def test_a_bound_stub_stays_bound(self):
        plain = Plain(Loaded(image_in(program("call far; call far")), general_library(["far"]), bases=[16, 512]), "main")
        plain.run(4)
        plain.opened(general_library(["x", "far"]), ahead=True)
        plain.run()
        self.assertEqual(plain.outputs(), [60000, 60000])

    def test_behind_all_it_answers_only_what_had_no_answer(self):
        plain = Plain(Loaded(image_in(program("call far; call gone")), general_library(["far"]), bases=[16, 512]), "main", early=True)
        plain.opened(general_library(["x", "far", "gone"]))
        self.assertEqual(list(plain.bound()), [(0, "far")])
        plain.run()
        self.assertEqual([plain.outputs(), plain.ended], [[60000, 60002], "halt"])

    def test_the_stubs_of_the_library(self):
        library = image_in("object l; outside main; code far 1 open; call main; jump far; end", roots=["far"])
        for early in (False, True):
            plain = plain_of("call far", early=early)
            plain.opened(image=library, ahead=False)
            bound = {(1, "far"): (1, ("l", "", "far")), (1, "main"): (0, MAIN)}
            told = plain.bound()
            self.assertEqual(told, bound if early else {})
            self.assertEqual(list(told), sorted(told))

    def test_more_images_than_a_loaded_set_has(self):
        plain = plain_of("out r0")
        for index in range(1, 9):
            self.assertEqual(plain.opened(general_library(["a"])), index)

    def test_contents_of_libraries(self):
        library = image_in("object l; code a 1 export; name r0 t; back; data t 1 local; word 3; address a; end", roots=["a"])
        plain = plain_of("out r0")
        plain.opened(library)
        self.assertEqual(plain.content(("l", "", "t"), image=1), [3, (1, ("l", "", "a"), 0)])


class RunTest(unittest.TestCase):
    def test_counts(self):
        plain = plain_of("out r0; out r0; out r0")
        self.assertEqual([plain.run(0), plain.run(most=2), plain.place()], [0, 2, at(2)])
        self.assertEqual([plain.run(), plain.ended, plain.run(), plain.run(5)], [2, "halt", 0, 0])
        self.assertEqual(repr(plain), "Plain(halt)")

    def test_the_default_and_the_greatest(self):
        loaded = loaded_in("object o; code main 1 export; jump main; end")
        self.assertEqual(Plain(loaded, "main").run(), 200)
        self.assertEqual(Plain(loaded, "main").run(2000), 2000)
        self.assertEqual(Plain(loaded, "main").run(2000), 2000)

    def test_wrong_numbers(self):
        plain = plain_of("out r0")
        for ended in (False, True):
            for most in [-1, 2001, 10**9, "1", *all_odd_values()]:
                self.assertIs(raised(self, InvalidNumber, plain.run, most).value, most)
            self.assertEqual(plain.outputs(), [0] if ended else [])
            plain.run()

    def test_beyond_the_end(self):
        plain = plain_of("out r0")
        plain.run()
        raised(self, Ended, plain.step)
        raised(self, Ended, plain.opened, general_library(["a"]))
        raised(self, Ended, plain.rewrite, None, None, image=None)
        raised(self, Ended, plain.take_back, None, image=None)
        self.assertEqual([plain.order(), plain.outputs()], [[0], [0]])
        self.assertEqual(plain.editions(MAIN), [0])

    def test_what_returns_none(self):
        self.assertIsNone(plain_of("out r0").step())

    def test_content_of_what_is_no_live_data_piece(self):
        plain = plain_of("name r0 d")
        for key in [MAIN, ("o", "", "g"), ("o", "", "x"), ("o", "d"), ["o", "", "d"], "d", D + (0,), *all_odd_values()]:
            self.assertIs(raised(self, UnknownPiece, plain.content, key).key, key)
        for image in [1, -1, "0", *all_odd_values()]:
            self.assertIs(raised(self, UnknownImage, plain.content, None, image=image).at, image)
        self.assertEqual(len(plain.content(key=D, image=0)), 5)

    def test_twins(self):
        plain = Plain(Loaded(image_in(program("name r1 d; store r1 r1 0; call far; out r0")), general_library(["far"]), bases=[16, 512]), "main")
        plain.run(3)
        plain.rewrite(MAIN, [("out", "r2"), ("halt",)])

        def told(machine):
            return [
                [machine.ended, machine.place(), machine.frames(), machine.registers(), machine.outputs()],
                [machine.order(), machine.bound(), machine.content(D), machine.editions(MAIN), repr(machine)],
            ]

        twin, before = plain.twin(), told(plain)
        self.assertEqual(told(twin), before)
        twin.opened(general_library(["gone"]), ahead=True)
        twin.rewrite(MAIN, [("halt",)])
        twin.run()
        self.assertEqual(told(plain), before)
        after = told(twin)
        plain.take_back(MAIN)
        plain.run()
        self.assertEqual(told(twin), after)
        self.assertEqual([plain.ended, plain.outputs(), twin.outputs()], ["halt", [60000, 60000], [60000, 60000]])

    def test_twins_open_libraries_alone(self):
        plain = plain_of("call far")
        twin = plain.twin()
        one, other = general_library(["far"]), general_library(["a", "b", "far"])
        self.assertEqual([twin.opened(one), twin.opened(one, ahead=True), plain.opened(other)], [1, 2, 1])
        self.assertEqual([twin.order(), plain.order()], [[2, 0, 1], [0, 1]])
        plain.run()
        twin.run()
        self.assertEqual([plain.outputs(), twin.outputs()], [[60002], [60000]])
        self.assertEqual([plain.bound()[0, "far"][0], twin.bound()[0, "far"][0]], [1, 2])
        self.assertEqual(raised(self, UnknownImage, plain.editions, MAIN, image=2).at, 2)

    def test_a_twin_that_has_ended(self):
        plain = plain_of("out r0")
        plain.run()
        self.assertEqual(raised(self, Ended, plain.twin().step).code, "Ended")


if __name__ == "__main__":
    unittest.main()

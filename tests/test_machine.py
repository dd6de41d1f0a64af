"""The cell machine: points [8] and [33], leastimage/machine.py."""

import unittest

from leastimage.cells import cell_of
from leastimage.errors import (
    Ended,
    Full,
    InvalidBase,
    InvalidImage,
    InvalidNumber,
    Overlap,
    UnknownImage,
    UnknownRoot,
)
from leastimage.libraries import general_library
from leastimage.loading import Loaded
from leastimage.machine import Machine

from common import all_odd_values, image_in, loaded_in, raised

BLANK = "object o; code main 1 export; room 15; halt; end"
STUB = "object o; outside far; code main 1 export; call far; jump far; end"


def cell(word, r=0, s=0, part=0):
    """A cell with a part that may be below 0."""
    return cell_of(word, r, s, part % 256)


def machine_with(*cells, base=4096, at=0):
    """A machine whose image of 16 cells begins with these, or has them at an offset."""
    machine = Machine(loaded_in(BLANK, base=base), "main")
    machine.write(base + at, list(cells))
    return machine


def behind(many, *cells, base=4096):
    """The machine behind so many steps."""
    machine = machine_with(*cells, base=base)
    for _ in range(many):
        machine.step()
    return machine


def state(machine):
    told = [machine.ended, machine.place(), machine.frames(), machine.registers(), machine.outputs(), machine.ends()]
    return told + [repr(machine), [machine.cell_at(address) for address in range(65536)]]


class BeginningTest(unittest.TestCase):
    def test_the_state(self):
        loaded = loaded_in("object o; code a 1 export; halt; code main 2 export; call a; halt; end", base=64)
        machine = Machine(loaded, "main")
        told = [machine.ended, machine.place(), machine.frames(), machine.registers(), machine.outputs()]
        self.assertEqual(told, ["", 66, [], [0, 0, 0, 0], []])
        self.assertEqual([repr(machine), machine.ends()], ["Machine(running)", [80]])
        self.assertTrue(machine)

    def test_another_image(self):
        loaded = Loaded(general_library(["a", "b"]), general_library(["c", "d"]), bases=[64, 32])
        self.assertEqual(Machine(loaded, "d", image=1).place(), 36)
        self.assertEqual(Machine(loaded=loaded, name="b", image=0, early=True).place(), 68)
        self.assertEqual(Machine(loaded, "b").ends(), [48, 80])

    def test_unknown_images_and_roots(self):
        loaded = loaded_in(STUB)
        for value in [-1, 1, "0", *all_odd_values()]:
            self.assertIs(raised(self, UnknownImage, Machine, loaded, "nobody", image=value).at, value)
        for value in ["far", "o", *all_odd_values()]:
            self.assertIs(raised(self, UnknownRoot, Machine, loaded, value).name, value)

    def test_cell_at(self):
        machine = machine_with(5)
        told = [machine.cell_at(address) for address in (4095, 4096, 4097, 4111, 4112)]
        self.assertEqual(told, [None, 5, 0, 4096, None])
        for value in ["4096", 65536, 4096 + 65536, (4096,), *all_odd_values()]:
            self.assertIsNone(machine.cell_at(value))


class CodesTest(unittest.TestCase):
    def goes_on(self, cells, registers, place, many=None):
        machine = behind(len(cells) if many is None else many, *cells)
        self.assertEqual([machine.ended, machine.registers(), machine.place()], ["", registers, 4096 + place], cells)
        return machine

    def ends(self, cells, word):
        """The last of some cells ends the run and leaves the rest as it was."""
        ahead = behind(len(cells) - 1, *cells)
        machine = behind(len(cells), *cells)
        self.assertEqual([ahead.ended, machine.ended], ["", word], cells)
        self.assertEqual(state(machine)[1:6], state(ahead)[1:6])
        self.assertEqual(state(machine)[7], state(ahead)[7])
        self.assertEqual(repr(machine), f"Machine({word})")

    def test_fault_and_halt(self):
        for more in (0, 1, 4095):
            self.ends([more], "room")
            self.ends([4096 + more], "halt")
        self.ends([cell("high", 1, part=3), 0], "room")

    def test_high_and_low(self):
        self.goes_on([cell("high", 0, part=255)], [65280, 0, 0, 0], 1)
        self.goes_on([cell("high", 3, 3, 1), cell("high", 3)], [0, 0, 0, 0], 2)
        self.goes_on([cell("low", 1, part=127)], [0, 127, 0, 0], 1)
        self.goes_on([cell("low", 1, part=128)], [0, 65536 - 128, 0, 0], 1)
        self.goes_on([cell("low", 2, 3, 255)], [0, 0, 65535, 0], 1)
        self.goes_on([cell("high", 2, part=255), cell("low", 2, part=127), cell("low", 2, part=127)], [0, 0, 65534, 0], 3)
        self.goes_on([cell("high", 2, part=255)] + [cell("low", 2, part=127)] * 3, [0, 0, 125, 0], 4)

    def test_add_and_take(self):
        cells = [cell("low", 0, part=5), cell("low", 3, part=-2)]
        self.goes_on([*cells, cell("add", 0, 3)], [3, 0, 0, 65534], 3)
        self.goes_on([*cells, cell("add", 3, 3, 77)], [5, 0, 0, 65532], 3)
        self.goes_on([*cells, cell("take", 0, 3)], [7, 0, 0, 65534], 3)
        self.goes_on([*cells, cell("take", 1, 0, 255)], [5, 65531, 0, 65534], 3)
        self.goes_on([*cells, cell("take", 3, 3)], [5, 0, 0, 0], 3)

    def test_load_and_store(self):
        near = cell("near", 1)
        self.goes_on([near, cell("load", 2, 1, 15)], [0, 4096, 4096, 0], 2)
        self.goes_on([near, cell("load", 1, 1, 1)], [0, cell("load", 1, 1, 1), 0, 0], 2)
        machine = self.goes_on([near, cell("low", 0, part=7), cell("store", 0, 1, 9)], [7, 4096, 0, 0], 3)
        self.assertEqual([machine.cell_at(4104), machine.cell_at(4105)], [0, 7])
        # The part is not signed here: 255 cells behind the address 3841 stands 4096.
        low = [cell("high", 3, part=15), cell("low", 3, part=1)]
        self.goes_on([*low, cell("load", 0, 3, 255)], [cell("high", 3, part=15), 0, 0, 3841], 3)

    def test_load_and_store_modulo_65536(self):
        cells = [cell("low", 1, part=-1), cell("load", 0, 1, 17)]
        machine = behind(2, *cells, base=16)
        self.assertEqual(machine.registers(), [cells[0], 65535, 0, 0])
        cells = [cell("low", 1, part=-1), cell("store", 1, 1, 22)]
        machine = behind(2, *cells, base=16)
        self.assertEqual(machine.cell_at(21), 65535)

    def test_load_and_store_outside(self):
        near = cell("near", 1)
        for word in ("load", "store"):
            self.ends([near, cell(word, 0, 1, 16)], "outside")
            self.ends([cell(word, 0, 0, 255)], "outside")
            self.ends([near, cell("low", 1, part=-1), cell(word, 0, 1, 0)], "outside")

    def test_jump(self):
        self.goes_on([cell("jump", part=5)], [0] * 4, 5)
        self.goes_on([cell("jump", 3, 3, 127)], [0] * 4, 127)
        self.goes_on([cell("jump", part=128)], [0] * 4, -128)
        self.goes_on([cell("jump", part=0)], [0] * 4, 0, 7)
        self.goes_on([cell("jump", part=2), 0, cell("jump", part=-2)], [0] * 4, 0, 2)
        machine = behind(1, cell("jump", part=-17), base=16)
        self.assertEqual([machine.place(), machine.ended], [65535, ""])

    def test_ifzero(self):
        self.goes_on([cell("ifzero", 2, part=9)], [0] * 4, 9)
        self.goes_on([cell("ifzero", 3, part=-9)], [0] * 4, -9)
        self.goes_on([cell("low", 2, part=1), cell("ifzero", 2, part=9)], [0, 0, 1, 0], 2)
        self.goes_on([cell("low", 1, part=-1), cell("ifzero", 1, part=-1)], [0, 65535, 0, 0], 2)
        self.goes_on([cell("high", 1, part=128), cell("ifzero", 1, part=0)], [0, 32768, 0, 0], 2)

    def test_call_and_back(self):
        machine = self.goes_on([cell("call", 1, 2, 4), 0, 0, 0, cell("back", 3, 3, 255)], [0] * 4, 4, 1)
        self.assertEqual(machine.frames(), [4097])
        machine.step()
        self.assertEqual([machine.place(), machine.frames()], [4097, []])
        machine = behind(1, cell("call", part=-6))
        self.assertEqual([machine.place(), machine.frames()], [4090, [4097]])

    def test_a_frame_behind_the_last_address(self):
        machine = Machine(loaded_in(BLANK, base=65520), "main")
        machine.write(65520, [cell("jump", part=15)] + [0] * 14 + [cell("call", part=0)])
        machine.run(3)
        self.assertEqual([machine.place(), machine.frames()], [65535, [0, 0]])
        machine.write(65535, [cell("back")])
        machine.step()
        self.assertEqual([machine.place(), machine.frames(), machine.ended], [0, [0], ""])
        machine.step()
        self.assertEqual([machine.place(), machine.frames(), machine.ended], [0, [0], "outside"])

    def test_near(self):
        self.goes_on([cell("near", 3, 3, 127)], [0, 0, 0, 4223], 1)
        self.goes_on([0, cell("near", 1, part=128)], [0] * 4, 0, 0)
        self.goes_on([cell("near", 1, part=128)], [0, 3968, 0, 0], 1)
        self.assertEqual(behind(1, cell("near", 0, part=-17), base=16).registers()[0], 65535)

    def test_jumpby_and_callby(self):
        self.goes_on([cell("high", 2, part=1), cell("jumpby", 2, 3, 255)], [0, 0, 256, 0], 256 - 4096)
        machine = self.goes_on([cell("near", 0, part=3), cell("callby", 0, 3, 255)], [4099, 0, 0, 0], 3)
        self.assertEqual(machine.frames(), [4098])
        self.goes_on([cell("jumpby", 3)], [0] * 4, -4096)

    def test_out(self):
        machine = self.goes_on([cell("low", 3, part=-1), cell("out", 3, 3, 9), cell("out")], [0, 0, 0, 65535], 3)
        self.assertEqual(machine.outputs(), [65535, 0])

    def test_back_without_frames(self):
        self.ends([cell("out"), cell("back")], "done")

    def test_thirty_frames(self):
        for cells, many in (([cell("call")], 31), ([cell("near", 1, part=1), cell("callby", 1)], 32)):
            machine = machine_with(*cells)
            self.assertEqual([machine.run(), machine.ended], [many, "deep"])
            self.assertEqual(machine.frames(), [4096 + len(cells)] * 30)
            self.assertEqual(machine.place(), 4095 + len(cells))

    def test_a_place_without_a_cell(self):
        machine = behind(1, cell("jump", part=16))
        self.assertEqual([machine.ended, machine.place()], ["", 4112])
        self.assertEqual([machine.run(), machine.ended, machine.place()], [1, "outside", 4112])
        raised(self, Ended, machine.step)


class StubsTest(unittest.TestCase):
    def setUp(self):
        self.image = image_in(STUB)
        self.slot = 16 + self.image.layout.slot_offset("far")

    def machine(self, *libraries, **more):
        bases = [16] + [64 * at + 64 for at in range(len(libraries))]
        return Machine(Loaded(self.image, *libraries, bases=bases), "main", **more)

    def test_unbound(self):
        machine = self.machine()
        self.assertEqual([machine.run(4), machine.ended, machine.place()], [4, "", 19])
        self.assertEqual([machine.run(), machine.ended, machine.place()], [1, "unbound", 19])
        self.assertEqual([machine.frames(), machine.registers(), machine.cell_at(self.slot)], [[21], [0] * 4, 0])

    def test_late(self):
        machine = self.machine(general_library(["x", "far"]))
        machine.run(4)
        self.assertEqual([machine.cell_at(self.slot), machine.place()], [0, 19])
        machine.step()
        self.assertEqual([machine.cell_at(self.slot), machine.place(), machine.registers()], [68, 68, [0] * 4])
        machine.run(9)
        self.assertEqual([machine.place(), machine.registers(), machine.outputs()], [68, [60001, 0, 0, 68], [60001]])
        machine.run()
        self.assertEqual([machine.ended, machine.outputs()], ["done", [60001, 60001]])

    def test_early(self):
        machine = self.machine(general_library(["x", "far"]), early=True)
        self.assertEqual(machine.cell_at(self.slot), 68)
        machine.run(5)
        self.assertEqual([machine.place(), machine.registers()], [68, [0, 0, 0, 68]])
        self.assertEqual(self.machine(early=True).cell_at(self.slot), 0)

    def test_an_early_run_binds_later_what_had_no_answer(self):
        machine = self.machine(early=True)
        machine.opened(general_library(["far"]), 512)
        self.assertEqual(machine.cell_at(self.slot), 0)
        machine.run(5)
        self.assertEqual([machine.cell_at(self.slot), machine.place(), machine.registers()], [512, 512, [0] * 4])

    def test_opened_ahead(self):
        for early, told in ((False, 512), (True, 64)):
            machine = self.machine(general_library(["far"]), early=early)
            self.assertEqual(machine.opened(general_library(["far"]), 512, ahead=True), 2)
            machine.run(5)
            self.assertEqual(machine.place(), told)

    def test_opened_behind(self):
        machine = self.machine(general_library(["far"]))
        self.assertEqual(machine.opened(image=general_library(["far"]), base=512), 2)
        self.assertEqual(machine.opened(general_library(["far"]), 1024, ahead=False), 3)
        machine.run(5)
        self.assertEqual(machine.place(), 64)

    def test_a_bound_stub_stays_bound(self):
        machine = self.machine(general_library(["far"]))
        machine.run(5)
        machine.opened(general_library(["far"]), 512, ahead=True)
        machine.run()
        self.assertEqual([machine.cell_at(self.slot), machine.outputs()], [64, [60000, 60000]])

    def test_the_stubs_of_a_library(self):
        library = image_in("object l; outside main; code far 1 open; call far; jump main; end", roots=["far"])
        for early, told in ((False, [0, 0]), (True, [512 + 8, 16 + 4])):
            machine = self.machine(early=early)
            machine.opened(library, 512)
            slots = [machine.cell_at(512 + library.layout.slot_offset(name)) for name in ("far", "main")]
            self.assertEqual(slots, told)

    def test_the_jumpby_of_a_stub_only_while_r3_is_0(self):
        machine = self.machine(general_library(["far"]))
        machine.write(16, [cell("low", 3, part=33)])
        machine.write(17, [cell("jumpby", 3)])
        machine.run(3)
        self.assertEqual(machine.place(), 33)
        # A jumpby cell elsewhere binds nothing.
        machine = self.machine(general_library(["far"]))
        machine.write(20, [cell("jumpby", 3)])
        machine.step()
        self.assertEqual([machine.place(), machine.ended, machine.cell_at(self.slot)], [0, "", 0])

    def test_two_stubs(self):
        text = "object o; outside a; outside b; code main 1 export; call b; call a; call b; halt; end"
        for early in (False, True):
            machine = Machine(Loaded(image_in(text), general_library(["a", "b"]), bases=[16, 64]), "main", early=early)
            machine.run()
            self.assertEqual([machine.outputs(), machine.ended], [[60001, 60000, 60001], "halt"])

    def test_a_slot_that_was_written(self):
        machine = self.machine(general_library(["far"]))
        machine.write(self.slot, [33])
        machine.run(5)
        self.assertEqual([machine.place(), machine.cell_at(self.slot), machine.registers()], [33, 33, [0, 0, 0, 33]])

    def test_a_jumpby_of_another_register(self):
        machine = self.machine(general_library(["far"]))
        machine.write(19, [cell("jumpby", 1)])
        machine.run(5)
        self.assertEqual([machine.place(), machine.cell_at(self.slot), machine.ended], [0, 0, ""])

    def test_another_cell_in_its_place(self):
        machine = self.machine(general_library(["far"]))
        machine.write(19, [cell("halt")])
        machine.run()
        self.assertEqual([machine.ended, machine.place(), machine.cell_at(self.slot)], ["halt", 19, 0])


class RunTest(unittest.TestCase):
    def test_counts(self):
        machine = machine_with(cell("out"), cell("out"), cell("out"), cell("halt"))
        self.assertEqual([machine.run(0), machine.run(most=2), machine.place()], [0, 2, 4098])
        self.assertEqual([machine.run(), machine.ended, machine.run()], [2, "halt", 0])

    def test_the_default_and_the_greatest(self):
        self.assertEqual(machine_with(cell("jump")).run(), 1000)
        self.assertEqual(machine_with(cell("jump")).run(9999), 9999)

    def test_wrong_numbers(self):
        machine = machine_with(cell("out"), cell("halt"))
        for ended in (False, True):
            for most in [-1, 10000, 10**9, "1", *all_odd_values()]:
                self.assertIs(raised(self, InvalidNumber, machine.run, most).value, most)
            self.assertEqual(machine.outputs(), [0] if ended else [])
            machine.run()

    def test_beyond_the_end(self):
        machine = behind(1, cell("halt"))
        before = state(machine)
        raised(self, Ended, machine.step)
        raised(self, Ended, machine.opened, None, None)
        raised(self, Ended, machine.add_room, 65536)
        raised(self, Ended, machine.write, None, [1])
        self.assertEqual(state(machine), before)

    def test_what_returns_none(self):
        machine = machine_with(cell("out"))
        self.assertEqual([machine.step(), machine.write(4096, [1])], [None, None])

    def test_returned_lists_are_new(self):
        machine = behind(2, cell("out"), cell("call"))
        for told in (machine.frames, machine.registers, machine.outputs, machine.ends):
            before = list(told())
            self.assertTrue(before)
            told().clear()
            self.assertEqual(told(), before)

    def test_twins(self):
        library = general_library(["far"])
        machine = Machine(Loaded(image_in(STUB), library, bases=[16, 64]), "main", early=False)
        machine.run(8)
        self.assertEqual(machine.outputs(), [60000])
        machine.add_room(3)
        twin, before = machine.twin(), state(machine)
        self.assertEqual(state(twin), before)
        twin.write(64, [cell("halt")])
        twin.opened(general_library(["a"]), 512, ahead=True)
        twin.add_room(5)
        twin.run()
        self.assertEqual(state(machine), before)
        after = state(twin)
        machine.opened(general_library(["b"]), 1024)
        machine.run(1)
        self.assertEqual(state(twin), after)
        self.assertEqual([twin.ended, machine.outputs(), machine.place()], ["halt", [60000], 21])

    def test_twins_keep_the_order_and_what_is_bound(self):
        machine = Machine(loaded_in(STUB), "main")
        machine.opened(general_library(["far"]), 64)
        machine.opened(general_library(["far"]), 128, ahead=True)
        twin = machine.twin()
        twin.run(5)
        self.assertEqual(twin.place(), 128)
        twin.opened(general_library(["far"]), 192, ahead=True)
        again = twin.twin()
        slot = 16 + image_in(STUB).layout.slot_offset("far")
        again.write(slot, [0])
        again.run()
        self.assertEqual([again.cell_at(slot), again.ended, machine.opened(general_library(["a"]), 192)], [128, "done", 3])


class RoomsTest(unittest.TestCase):
    def test_the_address(self):
        machine = Machine(Loaded(general_library(["a"]), general_library(["b"]), bases=[64, 16]), "a")
        told = [machine.add_room(1), machine.add_room(16), machine.add_room(many=17), machine.add_room(1)]
        self.assertEqual(told, [80, 96, 112, 144])
        self.assertEqual(machine.ends(), [32, 80, 81, 112, 129, 145])
        self.assertEqual([machine.cell_at(address) for address in (79, 80, 81, 111, 112, 128, 129)], [0, 0, None, 0, 0, 0, None])

    def test_a_library_behind_a_room(self):
        machine = machine_with(cell("out"))
        self.assertEqual(machine.add_room(5), 4112)
        machine.opened(general_library(["a"]), 8192)
        self.assertEqual([machine.add_room(5), machine.ends()], [8208, [4112, 4117, 8208, 8213]])

    def test_the_end_of_an_image_that_is_no_multiple(self):
        machine = Machine(loaded_in("object o; code main 1 export; halt; data d 1 local keep; room 3; end"), "main")
        self.assertEqual([machine.ends(), machine.add_room(2)], [[35], 48])

    def test_full(self):
        machine = machine_with(cell("out"), base=65536 - 48)
        before = state(machine)
        raised(self, Full, machine.add_room, 33)
        raised(self, Full, machine.add_room, 10**8)
        self.assertEqual(state(machine), before)
        self.assertEqual(machine.add_room(32), 65504)
        self.assertEqual(machine.ends(), [65504, 65536])
        raised(self, Full, machine.add_room, 1)
        machine = machine_with(cell("out"), base=65520)
        self.assertEqual(machine.ends(), [65536])
        raised(self, Full, machine.add_room, 1)

    def test_write(self):
        machine = machine_with(cell("out"))
        machine.write(4111, [65535])
        machine.write(address=4096, cells=(1, 2, 3))
        self.assertEqual([machine.cell_at(address) for address in (4096, 4097, 4098, 4099, 4111)], [1, 2, 3, 0, 65535])
        room = machine.add_room(2)
        machine.write(4110, [7, 8, 9, 10])
        self.assertEqual([room, machine.cell_at(4112), machine.cell_at(4113)], [4112, 9, 10])

    def test_write_where_no_cells_are(self):
        machine = machine_with(cell("out"))
        before = state(machine)
        for address, many in ((4095, 1), (4095, 17), (4112, 1), (4111, 2), (4096, 17), (0, 1), (65535, 2)):
            self.assertEqual(raised(self, InvalidNumber, machine.write, address, [1] * many).value, address)
        for value in [-1, 65536, 4096 + 65536, "4096", *all_odd_values()]:
            self.assertIs(raised(self, InvalidNumber, machine.write, value, [1]).value, value)
        self.assertEqual(state(machine), before)
        top = machine_with(cell("out"), base=65520)
        self.assertEqual(raised(self, InvalidNumber, top.write, 65535, [1, 2]).value, 65535)

    def test_a_list_that_was_written_is_copied(self):
        cells = [cell("out"), cell("halt")]
        machine = machine_with(*cells)
        machine.write(4096, cells)
        cells[0] = 0
        self.assertEqual(machine.cell_at(4096), cell("out"))


class OpenedTest(unittest.TestCase):
    def setUp(self):
        self.machine = machine_with(cell("out"))

    def test_errors_in_their_order(self):
        before = state(self.machine)
        for value in [3, *all_odd_values()]:
            self.assertEqual(raised(self, InvalidImage, self.machine.opened, value, 1).at, 1)
        for base in [1, 0, 65536, "16", *all_odd_values()]:
            self.assertEqual(raised(self, InvalidBase, self.machine.opened, general_library(["a"]), base).at, 1)
        self.assertEqual(raised(self, Overlap, self.machine.opened, general_library(["a"]), 4096).at, 1)
        self.assertEqual(state(self.machine), before)

    def test_an_added_room_counts_as_an_image(self):
        room = self.machine.add_room(17)
        library = general_library(["a"])
        before = state(self.machine)
        for base in (room, room + 16):
            self.assertEqual(raised(self, Overlap, self.machine.opened, library, base).at, 1)
        self.assertEqual(state(self.machine), before)
        self.assertEqual(self.machine.opened(library, room + 32), 1)
        self.assertEqual(raised(self, Overlap, self.machine.opened, library, room).at, 2)
        self.assertEqual(self.machine.opened(library, 16), 2)

    def test_a_sixth_image(self):
        for index in range(1, 5):
            self.assertEqual(self.machine.opened(general_library(["a"]), 16 * index), index)
        self.assertEqual(raised(self, InvalidImage, self.machine.opened, general_library(["a"]), 512).at, 5)

    def test_its_cells(self):
        library = general_library(["a"])
        self.machine.opened(library, 64)
        self.assertEqual([self.machine.cell_at(64 + at) for at in range(16)], library.cells(64))
        self.assertEqual([self.machine.cell_at(63), self.machine.cell_at(80)], [None, None])


if __name__ == "__main__":
    unittest.main()

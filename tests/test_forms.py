"""The forms of rows and the stub: point [10], leastimage/forms.py."""

import unittest

from leastimage.cells import cell_of, parted
from leastimage.forms import STUB, placed, row_cells, row_fields, row_size, stub_cells

ADDRESSES = [0, 1, 127, 128, 255, 256, 1000, 32767, 32768, 65279, 65280, 65407, 65408, 65409, 65535]

# The cells of each row of one form.
ONE_FORM = [
    (("put", "r0", 0), ["high 0 0 0", "low 0 0 0"]),
    (("put", "r1", 127), ["high 1 0 0", "low 1 0 127"]),
    (("put", "r2", 128), ["high 2 0 1", "low 2 0 128"]),
    (("put", "r0", 1000), ["high 0 0 4", "low 0 0 232"]),
    (("put", "r1", 65407), ["high 1 0 255", "low 1 0 127"]),
    (("put", "r1", 65408), ["high 1 0 0", "low 1 0 128"]),
    (("put", "r0", 65535), ["high 0 0 0", "low 0 0 255"]),
    (("add", "r0", "r1"), ["add 0 1 0"]),
    (("add", "r2", "r2"), ["add 2 2 0"]),
    (("take", "r2", "r0"), ["take 2 0 0"]),
    (("load", "r1", "r2", 0), ["load 1 2 0"]),
    (("load", "r0", "r1", 15), ["load 0 1 15"]),
    (("store", "r2", "r1", 7), ["store 2 1 7"]),
    (("callby", "r2"), ["callby 2 0 0"]),
    (("callby", "r0"), ["callby 0 0 0"]),
    (("back",), ["back 0 0 0"]),
    (("out", "r1"), ["out 1 0 0"]),
    (("halt",), ["halt 0 0 0"]),
    (("room", 1), ["fault 0 0 0"]),
    (("room", 3), ["fault 0 0 0"] * 3),
    (("room", 120), ["fault 0 0 0"] * 120),
    (("word", 0), ["fault 0 0 0"]),
    (("word", 65535), ["out 3 3 255"]),
    (("word", 4096), ["halt 0 0 0"]),
]
# The short forms, whose part is told apart, and the long ones with the address
# 1000, whose halves are 4 and -24.
TWO_FORMS = [
    (("name", "r1", "list"), "near 1 0", ["high 1 0 4", "low 1 0 232"], 0),
    (("jump", "again"), "jump 0 0", ["high 3 0 4", "low 3 0 232", "jumpby 3 0 0"], 0),
    (
        ("ifzero", "r2", "again"),
        "ifzero 2 0",
        ["ifzero 2 0 2", "jump 0 0 4", "high 3 0 4", "low 3 0 232", "jumpby 3 0 0"],
        2,
    ),
    (("call", "print"), "call 0 0", ["high 3 0 4", "low 3 0 232", "callby 3 0 0"], 0),
]
REGISTERS = ("r0", "r1", "r2")


def cell(text):
    word, *numbers = text.split(" ")
    return cell_of(word, *[int(number) for number in numbers])


def cells(texts):
    return [cell(text) for text in texts]


def goes_to(memory, at, registers):
    """Where a run of these cells leaves them, and how; by point [8]."""
    while at in memory:
        word, r, s, part = parted(memory[at])
        ahead = (at + (part - 256 if part > 127 else part)) % 65536
        if word == "high":
            registers[r] = part * 256
        elif word == "low":
            registers[r] = (registers[r] + ahead - at) % 65536
        elif word == "load":
            return "load", registers[s], part
        elif word == "near":
            registers[r] = ahead
        elif word == "call":
            return "call", ahead
        elif word in ("jumpby", "callby"):
            return word[:4], registers[r]
        at = ahead if word == "jump" or (word == "ifzero" and registers[r] == 0) else (at + 1) % 65536
    return "jump", at


def run_row(row, at, target, long, registers):
    found = row_cells(row, at, target, long)
    memory = {(at + index) % 65536: value for index, value in enumerate(found)}
    return goes_to(memory, at, registers)


class OneFormTest(unittest.TestCase):
    def test_cells(self):
        for row, texts in ONE_FORM:
            self.assertEqual(row_cells(row, 40, 90), cells(texts), row)

    def test_long_means_nothing(self):
        for row, texts in ONE_FORM:
            for at, target in ((0, 0), (65500, 3), (3, None)):
                self.assertEqual(row_cells(row, at, target, True), cells(texts), row)
                self.assertEqual(row_cells(row, at, target, False), cells(texts), row)

    def test_sizes(self):
        for row, texts in ONE_FORM:
            self.assertEqual(row_size(row), len(texts), row)
            self.assertEqual(row_size(row, True), len(texts), row)
            self.assertEqual(row_size(row, long=False), len(texts), row)

    def test_no_fields(self):
        # The halves of put are those of a number, not of an address.
        for row, _ in ONE_FORM:
            self.assertEqual(row_fields(row), [], row)
            self.assertEqual(row_fields(row, True), [], row)

    def test_put_puts_the_word(self):
        for word in ADDRESSES:
            registers = [7, 7, 7, 7]
            run_row(("put", "r1", word), 100, None, False, registers)
            self.assertEqual(registers, [7, word, 7, 7])

    def test_address(self):
        for target in ADDRESSES:
            for long in (False, True):
                self.assertEqual(row_cells(("address", "main"), 5, target, long), [target])
                self.assertEqual(row_size(("address", "main"), long), 1)
                self.assertEqual(row_fields(("address", "main"), long), [(0, "whole")])


class ShortFormTest(unittest.TestCase):
    def test_parts(self):
        for row, start, _, _ in TWO_FORMS:
            for at, target, part in (
                (50, 50, 0),
                (50, 51, 1),
                (50, 90, 40),
                (50, 177, 127),
                (50, 49, 255),
                (50, 10, 216),
                (200, 72, 128),
                (65500, 65535, 35),
                (65535, 0, 1),
                (0, 65535, 255),
                (65408, 65400, 248),
                (3, 65530, 247),
            ):
                self.assertEqual(row_cells(row, at, target), [cell(f"{start} {part}")], (row, at, target))

    def test_far_targets_are_taken_modulo_256(self):
        for row, start, _, _ in TWO_FORMS:
            for at, target, part in ((0, 128, 128), (0, 300, 44), (1000, 0, 24), (65000, 1, 25)):
                self.assertEqual(row_cells(row, at, target), [cell(f"{start} {part}")])

    def test_sizes_and_fields(self):
        for row, _, _, _ in TWO_FORMS:
            self.assertEqual(row_size(row), 1)
            self.assertEqual(row_size(row, long=False), 1)
            self.assertEqual(row_fields(row), [])
            self.assertEqual(row_fields(row, long=False), [])

    def test_registers(self):
        for number, name in enumerate(REGISTERS):
            self.assertEqual(row_cells(("name", name, "a"), 0, 5), [cell_of("near", number, 0, 5)])
            self.assertEqual(row_cells(("ifzero", name, "a"), 0, 5), [cell_of("ifzero", number, 0, 5)])

    def test_short_forms_lead_to_near_targets(self):
        for at in ADDRESSES:
            for step in (-128, -100, -1, 1, 2, 100, 127):
                target = (at + step) % 65536
                self.assertEqual(run_row(("jump", "a"), at, target, False, [9] * 4), ("jump", target))
                self.assertEqual(run_row(("call", "a"), at, target, False, [9] * 4), ("call", target))
                self.assertEqual(run_row(("ifzero", "r1", "a"), at, target, False, [9, 0, 9, 9]), ("jump", target))
                registers = [9] * 4
                run_row(("name", "r2", "a"), at, target, False, registers)
                self.assertEqual(registers, [9, 9, target, 9])


class LongFormTest(unittest.TestCase):
    def test_cells(self):
        for row, _, texts, _ in TWO_FORMS:
            for at in (0, 999, 1000, 65535):
                self.assertEqual(row_cells(row, at, 1000, True), cells(texts), row)
            self.assertEqual(row_cells(row, at=0, target=1000, long=True), cells(texts), row)

    def test_sizes(self):
        self.assertEqual([row_size(row, True) for row, _, _, _ in TWO_FORMS], [2, 3, 5, 3])
        for row, _, texts, _ in TWO_FORMS:
            self.assertEqual(row_size(row, long=True), len(texts), row)

    def test_fields(self):
        for row, _, _, at in TWO_FORMS:
            self.assertEqual(row_fields(row, True), [(at, "high"), (at + 1, "low")], row)
            self.assertEqual(row_fields(row, long=True), [(at, "high"), (at + 1, "low")], row)

    def test_registers(self):
        for number, name in enumerate(REGISTERS):
            found = row_cells(("name", name, "a"), 0, 1000, True)
            self.assertEqual([parted(value)[1] for value in found], [number, number])
            found = row_cells(("ifzero", name, "a"), 0, 1000, True)
            self.assertEqual([parted(value)[1] for value in found], [number, 0, 3, 3, 3])

    def test_long_forms_lead_to_each_target(self):
        for at in (5, 40000, 65533):
            # A long form does not look at where it stands.
            for target in ADDRESSES:
                self.assertEqual(run_row(("jump", "a"), at, target, True, [9] * 4), ("jump", target))
                self.assertEqual(run_row(("call", "a"), at, target, True, [9] * 4), ("call", target))
                self.assertEqual(run_row(("ifzero", "r1", "a"), at, target, True, [9, 0, 9, 9]), ("jump", target))
                registers = [9] * 4
                run_row(("name", "r2", "a"), at, target, True, registers)
                self.assertEqual(registers, [9, 9, target, 9])

    def test_ifzero_goes_on_if_there_is_no_zero(self):
        for at in (5, 40000, 65531):
            behind = (at + 5) % 65536
            self.assertEqual(run_row(("ifzero", "r1", "a"), at, 1000, True, [0, 9, 0, 0]), ("jump", behind))
            self.assertEqual(run_row(("ifzero", "r1", "a"), at, at + 3, False, [0, 9, 0, 0]), ("jump", (at + 1)))


class StubTest(unittest.TestCase):
    def test_size(self):
        self.assertEqual(STUB, 4)
        self.assertEqual(len(stub_cells(0)), STUB)

    def test_cells(self):
        for slot, high, low in ((0, 0, 0), (127, 0, 127), (128, 1, 128), (1000, 4, 232), (65408, 0, 128), (65535, 0, 255)):
            texts = [f"high 3 0 {high}", f"low 3 0 {low}", "load 3 3 0", "jumpby 3 0 0"]
            self.assertEqual(stub_cells(slot), cells(texts))
        self.assertEqual(stub_cells(slot=300)[2:], cells(["load 3 3 0", "jumpby 3 0 0"]))

    def test_stubs_load_their_slot(self):
        for slot in ADDRESSES:
            memory = dict(enumerate(stub_cells(slot), 20))
            self.assertEqual(goes_to(memory, 20, [9] * 4), ("load", slot, 0))


class PlacedTest(unittest.TestCase):
    def test_fields(self):
        high, low = cell("high 3 0 0"), cell("low 1 2 77")
        for address in ADDRESSES:
            self.assertEqual(placed(0, "whole", address), address)
            self.assertEqual(placed(low, "whole", address), address)
            self.assertEqual(parted(placed(high, "high", address)), ("high", 3, 0, (address + 128) // 256 % 256))
            self.assertEqual(parted(placed(low, "low", address)), ("low", 1, 2, address % 256))

    def test_halves_at_the_edges(self):
        for address, high, low in ((127, 0, 127), (128, 1, 128), (65407, 255, 127), (65408, 0, 128), (65535, 0, 255)):
            self.assertEqual(placed(cell("high 0 0 9"), "high", address), cell(f"high 0 0 {high}"))
            self.assertEqual(placed(cell("low 0 0 9"), "low", address), cell(f"low 0 0 {low}"))

    def test_values_by_name(self):
        self.assertEqual(placed(address=1000, field="high", cell=cell("high 3 0 0")), cell("high 3 0 4"))

    def test_fields_of_rows_are_where_the_address_goes(self):
        # Laid for one target, and turned to another one through the fields.
        for row, _, _, _ in TWO_FORMS + [(("address", "a"), None, None, None)]:
            for target in ADDRESSES:
                turned = row_cells(row, 10, 0, True)
                for index, field in row_fields(row, True):
                    turned[index] = placed(turned[index], field, target)
                self.assertEqual(turned, row_cells(row, 10, target, True))


class AllRowsTest(unittest.TestCase):
    def test_as_many_cells_as_the_size(self):
        rows = [row for row, _ in ONE_FORM] + [row for row, _, _, _ in TWO_FORMS] + [("address", "a")]
        for row in rows:
            for long in (False, True):
                self.assertEqual(len(row_cells(row, 7, 30, long)), row_size(row, long), row)

    def test_returned_lists_are_new(self):
        for row in (("room", 2), ("jump", "a"), ("address", "a"), ("word", 5)):
            for told in (lambda: row_cells(row, 0, 1, True), lambda: row_fields(row, True)):
                kept = told()
                before = list(kept)
                self.assertIsInstance(kept, list)
                kept.append(None)
                self.assertEqual(told(), before)
        stub_cells(5).clear()
        self.assertEqual(len(stub_cells(5)), 4)

    def test_values_by_name(self):
        self.assertEqual(row_size(row=("jump", "a"), long=True), 3)
        self.assertEqual(row_fields(row=("address", "a")), [(0, "whole")])
        self.assertEqual(row_cells(row=("word", 5), at=0, target=None), [5])


if __name__ == "__main__":
    unittest.main()

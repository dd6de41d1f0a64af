"""Cells and codes: point [8], leastimage/cells.py."""

import unittest

from leastimage.cells import CODES, cell_of, parted, with_part
from leastimage.errors import InvalidName, InvalidNumber

from common import all_odd_values, raised

WORDS = "fault halt high low add take load store jump ifzero call near jumpby callby back out".split(" ")
NO_NUMBERS = all_odd_values() + ["1", (1,), [1]]


class CellsTest(unittest.TestCase):
    def test_codes(self):
        self.assertIsInstance(CODES, tuple)
        self.assertEqual(list(CODES), WORDS)

    def test_cell_of(self):
        for at, word in enumerate(WORDS):
            self.assertEqual(cell_of(word), at * 4096)
            self.assertEqual(cell_of(word, 1), at * 4096 + 1024)
            self.assertEqual(cell_of(word, 0, 1), at * 4096 + 256)
            self.assertEqual(cell_of(word, 0, 0, 1), at * 4096 + 1)
            self.assertEqual(cell_of(word, 3, 2, 255), at * 4096 + 3 * 1024 + 2 * 256 + 255)
        self.assertEqual(cell_of("out", 3, 3, 255), 65535)
        self.assertEqual(cell_of("fault"), 0)

    def test_values_by_name(self):
        self.assertEqual(cell_of(part=7, s=1, r=2, word="load"), 6 * 4096 + 2 * 1024 + 256 + 7)
        self.assertEqual(cell_of("add", s=2), 4 * 4096 + 512)
        self.assertEqual(parted(cell=4096), ("halt", 0, 0, 0))
        self.assertEqual(with_part(part=9, cell=4096), 4105)

    def test_there_and_back(self):
        for word in WORDS:
            for r in range(4):
                for s in range(4):
                    for part in (0, 1, 127, 128, 255):
                        cell = cell_of(word, r, s, part)
                        self.assertEqual(parted(cell), (word, r, s, part))

    def test_each_cell_back_and_there(self):
        for cell in range(65536):
            if cell_of(*parted(cell)) != cell:
                self.fail(f"cell {cell}")

    def test_parted_is_a_tuple(self):
        self.assertIsInstance(parted(0), tuple)
        self.assertEqual(parted(0), ("fault", 0, 0, 0))
        self.assertEqual(parted(65535), ("out", 3, 3, 255))

    def test_words_of_no_code(self):
        for value in all_odd_values() + ["Halt", "put", "halt ", "room", 1, 0, ("halt",), ["halt"]]:
            self.assertIs(raised(self, InvalidName, cell_of, value).value, value)

    def test_numbers_out_of_bounds(self):
        for wrong in NO_NUMBERS + [4, -1]:
            self.assertIs(raised(self, InvalidNumber, cell_of, "add", wrong).value, wrong)
            self.assertIs(raised(self, InvalidNumber, cell_of, "add", 3, wrong).value, wrong)
        for wrong in NO_NUMBERS + [256, -1]:
            self.assertIs(raised(self, InvalidNumber, cell_of, "add", 3, 3, wrong).value, wrong)

    def test_order_of_errors(self):
        self.assertEqual(raised(self, InvalidName, cell_of, "none", 4, 5, 256).value, "none")
        self.assertEqual(raised(self, InvalidNumber, cell_of, "add", 4, 5, 256).value, 4)
        self.assertEqual(raised(self, InvalidNumber, cell_of, "add", 3, 5, 256).value, 5)
        self.assertEqual(raised(self, InvalidNumber, cell_of, "add", 3, 3, 256).value, 256)

    def test_parted_refuses_what_is_no_word(self):
        for value in NO_NUMBERS + [-1, 65536, 999999999]:
            self.assertIs(raised(self, InvalidNumber, parted, value).value, value)

    def test_with_part(self):
        for word in WORDS:
            for old in (0, 77, 255):
                for new in (0, 1, 128, 255):
                    self.assertEqual(with_part(cell_of(word, 2, 1, old), new), cell_of(word, 2, 1, new))
        self.assertEqual(with_part(65535, 0), 65280)
        self.assertEqual(with_part(0, 255), 255)


if __name__ == "__main__":
    unittest.main()

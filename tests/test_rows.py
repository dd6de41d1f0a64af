"""Code rows, data rows and their texts: point [3], leastimage/rows.py."""

import unittest

from leastimage.rows import is_closing, is_code_row, is_data_row, name_in, read_row, row_text

from common import all_odd_values

# A row of each word, its text, and the name in it.
CODE = [
    (("put", "r0", 5), "put r0 5", None),
    (("name", "r1", "list"), "name r1 list", "list"),
    (("add", "r0", "r1"), "add r0 r1", None),
    (("take", "r2", "r0"), "take r2 r0", None),
    (("load", "r0", "r1", 3), "load r0 r1 3", None),
    (("store", "r1", "r2", 15), "store r1 r2 15", None),
    (("jump", "again"), "jump again", "again"),
    (("ifzero", "r1", "again"), "ifzero r1 again", "again"),
    (("call", "print"), "call print", "print"),
    (("callby", "r2"), "callby r2", None),
    (("back",), "back", None),
    (("out", "r0"), "out r0", None),
    (("halt",), "halt", None),
]
DATA = [
    (("word", 65535), "word 65535", None),
    (("address", "main"), "address main", "main"),
]
BOTH = [(("room", 7), "room 7", None)]
WORDS = [row[0] for row, _, _ in CODE + DATA + BOTH]


def is_row(value):
    return is_code_row(value) or is_data_row(value)


def bent_rows(row):
    """The row with one item left out, put in, or changed to another kind."""
    for at in range(len(row)):
        yield row[:at] + row[at + 1 :]
    for at in range(len(row) + 1):
        for item in ("r0", "main", 1, None, ()):
            yield row[:at] + (item,) + row[at:]
    for at in range(1, len(row)):
        for item in (None, True, False, -1, 65536, "", "r3", "R0", "Main", "abcdefg", "5", (), [], ("r0",), ["r0"]):
            yield row[:at] + (item,) + row[at + 1 :]


class RowKindsTest(unittest.TestCase):
    def test_code_rows(self):
        for row, _, _ in CODE + BOTH:
            self.assertIs(is_code_row(row), True, row)
        for row, _, _ in DATA:
            self.assertIs(is_code_row(row), False, row)

    def test_data_rows(self):
        for row, _, _ in DATA + BOTH:
            self.assertIs(is_data_row(row), True, row)
        for row, _, _ in CODE:
            self.assertIs(is_data_row(row), False, row)

    def test_bounds_of_numbers(self):
        cases = [
            (is_code_row, ("put", "r0"), 0, 65535),
            (is_code_row, ("load", "r0", "r0"), 0, 15),
            (is_code_row, ("store", "r0", "r0"), 0, 15),
            (is_code_row, ("room",), 1, 120),
            (is_data_row, ("room",), 1, 120),
            (is_data_row, ("word",), 0, 65535),
        ]
        for is_kind, start, least, most in cases:
            self.assertIs(is_kind(start + (least,)), True, start)
            self.assertIs(is_kind(start + (most,)), True, start)
            self.assertIs(is_kind(start + (least - 1,)), False, start)
            self.assertIs(is_kind(start + (most + 1,)), False, start)
            self.assertIs(is_kind(start + (True,)), False, start)
            self.assertIs(is_kind(start + (str(most),)), False, start)

    def test_items_of_other_rows(self):
        for row in (
            ("put", 5, "r0"),
            ("put", "main", 5),
            ("put", "r0", "r0"),
            ("name", "r0", "r0"),
            ("name", "main", "r0"),
            ("add", "r0", "main"),
            ("add", "r0", 1),
            ("take", "r3", "r0"),
            ("take", "r0", "r3"),
            ("load", "r0", 3, "r1"),
            ("jump", "r0"),
            ("jump", 5),
            ("ifzero", "again", "r1"),
            ("call", "r0"),
            ("callby", "main"),
            ("out", 5),
            ("room", "r0"),
            ("word", "main"),
            ("address", "r0"),
            ("address", 5),
        ):
            self.assertIs(is_row(row), False, row)

    def test_bent_rows(self):
        good = [("put", "r0", 1), ("room", 1), ("word", 1), ("halt",), ("back",)]
        for row, _, _ in CODE + DATA + BOTH:
            for bent in bent_rows(row):
                right = bent in good and True not in [item is True for item in bent]
                self.assertIs(is_row(bent), right, bent)

    def test_lists_are_no_rows(self):
        for row, text, _ in CODE + DATA + BOTH:
            for value in (list(row), (row,), [row], text, row[0], (list(row),)):
                self.assertIs(is_code_row(value), value == row, value)
                self.assertIs(is_data_row(value), value == row, value)

    def test_words_of_no_row(self):
        for word in ("", "end", "code", "data", "object", "outside", "puts", "Halt", "halt ", "r0", None, 5):
            self.assertIs(is_row((word,)), False)
            self.assertIs(is_row((word, "r0")), False)

    def test_values_that_are_no_rows(self):
        for value in all_odd_values():
            with self.subTest(value=value):
                self.assertIs(is_code_row(value), False)
                self.assertIs(is_data_row(value), False)

    def test_values_by_name(self):
        self.assertIs(is_code_row(value=("halt",)), True)
        self.assertIs(is_data_row(value=("word", 1)), True)
        self.assertIs(is_closing(row=("halt",)), True)
        self.assertEqual(name_in(row=("jump", "a")), "a")
        self.assertEqual(row_text(row=("jump", "a")), "jump a")
        self.assertEqual(read_row(text="jump a"), ("jump", "a"))


class ClosingAndNamesTest(unittest.TestCase):
    def test_closing(self):
        for row, _, _ in CODE + DATA + BOTH:
            self.assertIs(is_closing(row), row[0] in ("jump", "halt", "back"), row)

    def test_name_in(self):
        for row, _, name in CODE + DATA + BOTH:
            self.assertEqual(name_in(row), name, row)
        self.assertEqual(name_in(("jump", "jump")), "jump")
        self.assertEqual(name_in(("name", "r0", "name")), "name")
        self.assertEqual(name_in(("ifzero", "r0", "r")), "r")


    def test_values_that_are_no_rows(self):
        values = all_odd_values() + [5, "halt", "jump a"]
        for row, _, _ in CODE + DATA + BOTH:
            values.extend([list(row), (row,), *[bent for bent in bent_rows(row) if not is_row(bent)]])
        for value in values:
            self.assertIs(is_closing(value), False, value)
            self.assertIsNone(name_in(value), value)


class RowTextTest(unittest.TestCase):
    def test_there(self):
        for row, text, _ in CODE + DATA + BOTH:
            self.assertEqual(row_text(row), text)

    def test_back(self):
        for row, text, _ in CODE + DATA + BOTH:
            read = read_row(text)
            self.assertEqual(read, row)
            self.assertIsInstance(read, tuple)
            self.assertEqual([item.__class__ for item in read], [item.__class__ for item in row])

    def test_bounds_there_and_back(self):
        for row in (
            ("put", "r0", 0),
            ("put", "r2", 65535),
            ("put", "r0", 10),
            ("put", "r0", 100),
            ("load", "r0", "r1", 0),
            ("store", "r0", "r1", 15),
            ("room", 1),
            ("room", 120),
            ("word", 0),
            ("word", 65535),
            ("address", "a"),
            ("jump", "abcdef"),
        ):
            self.assertEqual(read_row(row_text(row)), row)

    def test_zero_is_written_as_zero(self):
        self.assertEqual(row_text(("put", "r0", 0)), "put r0 0")
        self.assertEqual(read_row("put r0 0"), ("put", "r0", 0))

    def test_numbers_out_of_bounds(self):
        for text in ("put r0 65536", "put r0 100000", "load r0 r1 16", "store r0 r1 16", "room 0", "room 121"):
            self.assertIsNone(read_row(text), text)
        for text in ("word 65536", "put r0 " + "9" * 11000, "word " + "1" * 5000, "room " + "0" * 5000):
            self.assertIsNone(read_row(text), text[:20])

    def test_zeros_and_signs_of_numbers(self):
        for number in ("00", "01", "+1", "-1", "-0", "1.", "1.0", "1_0", "0x1", "1e1", "", "a", "r0", "\u0661", "\u00b2"):
            for start in ("put r0 ", "room ", "word ", "load r0 r1 "):
                self.assertIsNone(read_row(start + number), start + number)

    def test_spaces(self):
        for _, text, _ in CODE + DATA + BOTH:
            for bent in (" " + text, text + " ", text.replace(" ", "  ") + " ", "\n" + text, text + "\n"):
                self.assertIsNone(read_row(bent), bent)
            if " " in text:
                for sign in ("  ", "\n", "_", "", ",", ", "):
                    self.assertIsNone(read_row(text.replace(" ", sign, 1)), text)

    def test_one_sign_changed(self):
        # What can still be read must be written in just this way.
        for _, text, _ in CODE + DATA + BOTH:
            for at in range(len(text) + 1):
                bent = [text[:at] + text[at + 1 :]]
                for sign in "ar05 -A~\n":
                    bent.append(text[:at] + sign + text[at:])
                    bent.append(text[:at] + sign + text[at + 1 :])
                for changed in bent:
                    read = read_row(changed)
                    if read is not None:
                        self.assertEqual(row_text(read), changed)
                        self.assertTrue(is_row(read))

    def test_one_word_more_or_less(self):
        for _, text, _ in CODE + DATA + BOTH:
            for word in ("r0", "main", "5"):
                self.assertIsNone(read_row(word + " " + text), text)
            for more in (" R", " -", " r0 r0 r0 r0"):
                self.assertIsNone(read_row(text + more), text)
            if " " in text:
                self.assertIsNone(read_row(text.rpartition(" ")[0]), text)
                self.assertIsNone(read_row(text.partition(" ")[2]), text)

    def test_other_words(self):
        for text in ("", "end", "object a", "outside a", "code a 1 local", "HALT", "Halt", "halt r0", "jump"):
            self.assertIsNone(read_row(text), text)

    def test_values_that_are_no_strings(self):
        for value in all_odd_values() + [0, 5, ("halt",), ["halt"], ("put", "r0", 5)]:
            self.assertIsNone(read_row(value))


if __name__ == "__main__":
    unittest.main()

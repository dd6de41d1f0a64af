"""Texts of objects, archives and books: point [7], leastimage/texts.py."""

import unittest

from leastimage.errors import InvalidText
from leastimage.objects import Archive, Object, wide_object
from leastimage.pieces import Piece
from leastimage.texts import read_unit, read_units, unit_text, units_text

from common import all_odd_values, code, data, raised

LETTERS = "abcdefghijklmnopqrstuvwxyz"

MAIN = Object(
    "prog",
    Piece(
        "main",
        "code",
        [
            ("put", "r0", 0),
            ("name", "r1", "list"),
            ("load", "r2", "r1", 15),
            ("ifzero", "r2", "main"),
            ("call", "print"),
            ("room", 120),
            ("halt",),
        ],
        alignment=16,
        scope="export",
        keep=True,
    ),
    Piece("list", "data", [("word", 65535), ("address", "main"), ("room", 1)], alignment=2),
    Piece("hook", "code", [("back",)], scope="open"),
    Piece("spare", "code", [("jump", "hook")], alignment=4, scope="weak", keep=True),
    Piece("empty", "data", [], alignment=8, scope="weak"),
    outside=["print", "read"],
)
MAIN_TEXT = """object prog
outside print
outside read
code main 16 export keep
put r0 0
name r1 list
load r2 r1 15
ifzero r2 main
call print
room 120
halt
data list 2 local
word 65535
address main
room 1
code hook 1 open
back
code spare 4 weak keep
jump hook
data empty 8 weak
end
"""
LIB = Archive("lib", MAIN, Object("void"), Object("more", code("main")))
LIB_TEXT = (
    "archive lib\n" + MAIN_TEXT + "object void\nend\nobject more\ncode main 1 local\nhalt\nend\nend\n"
)
UNITS = [
    (MAIN, MAIN_TEXT),
    (LIB, LIB_TEXT),
    (Object("a"), "object a\nend\n"),
    (Archive("a"), "archive a\nend\n"),
    (Object("a", outside=["b"]), "object a\noutside b\nend\n"),
    (Archive("a", Object("a")), "archive a\nobject a\nend\nend\n"),
    (Object("a", data("a", scope="export", keep=True)), "object a\ndata a 1 export keep\nend\n"),
]


def text_of(*lines):
    return "".join([line + "\n" for line in lines])


def piece_lines(names, head="code {} 1 local", rows=("halt",)):
    lines = []
    for name in names:
        lines.extend([head.replace("{}", name), *rows])
    return lines


def object_lines(name, *lines):
    return ["object " + name, *lines, "end"]


class TextsTest(unittest.TestCase):
    """What all tests of this file need: checks of the errors of both readers."""

    def refuse_units(self, text, line, why):
        error = raised(self, InvalidText, read_units, text)
        self.assertEqual((error.line, error.why), (line, why), text)

    def refuse_unit(self, text, line, why):
        error = raised(self, InvalidText, read_unit, text)
        self.assertEqual((error.line, error.why), (line, why), text)

    def refuse(self, text, line, why):
        self.refuse_units(text, line, why)
        self.refuse_unit(text, line, why)


class ThereAndBackTest(TextsTest):
    def test_unit_text(self):
        for unit, text in UNITS:
            self.assertEqual(unit_text(unit), text)
        self.assertEqual(unit_text(unit=UNITS[0][0]), UNITS[0][1])

    def test_read_unit(self):
        for unit, text in UNITS:
            self.assertEqual(read_unit(text), unit)
            self.assertIs(read_unit(text=text).__class__, unit.__class__)

    def test_units_text(self):
        self.assertEqual(units_text([]), "")
        self.assertEqual(units_text((MAIN, LIB)), MAIN_TEXT + LIB_TEXT)
        self.assertEqual(units_text(units=[LIB, MAIN]), LIB_TEXT + MAIN_TEXT)

    def test_read_units(self):
        self.assertEqual(read_units(""), [])
        self.assertEqual(read_units(text=MAIN_TEXT + LIB_TEXT), [MAIN, LIB])
        self.assertEqual(read_units(LIB_TEXT + MAIN_TEXT), [LIB, MAIN])
        for unit, text in UNITS:
            self.assertEqual(read_units(text), [unit])

    def test_read_lists_are_new(self):
        read_units(MAIN_TEXT).clear()
        self.assertEqual(read_units(MAIN_TEXT), [MAIN])

    def test_each_scope_and_alignment(self):
        for scope in ("local", "export", "open", "weak"):
            for alignment in (1, 2, 4, 8, 16):
                for keep in (False, True):
                    unit = Object("a", code("b", scope=scope, alignment=alignment, keep=keep))
                    self.assertEqual(read_unit(unit_text(unit)), unit)
                    if scope != "open":
                        unit = Object("a", data("b", scope=scope, alignment=alignment, keep=keep))
                        self.assertEqual(read_unit(unit_text(unit)), unit)

    def test_wide_objects_have_a_text(self):
        wide = wide_object("a", [code(name) for name in "bcdefghij"], list("klmnopqrs"))
        lines = ["outside " + name for name in "klmnopqrs"] + piece_lines("bcdefghij")
        self.assertEqual(unit_text(wide), text_of(*object_lines("a", *lines)))

    def test_one_sign_changed(self):
        # What can still be read is written in just this way.
        text = text_of(
            "archive lib", "object a", "outside x", "code b 16 open keep", "put r0 10", "halt", "data c 1 weak",
            "word 1", "end", "end",
        )
        self.assertEqual(unit_text(read_unit(text)), text)
        for at in range(len(text) + 1):
            changed = [text[:at] + text[at + 1 :]]
            for sign in "ax01 -A~\n":
                changed.append(text[:at] + sign + text[at:])
                changed.append(text[:at] + sign + text[at + 1 :])
            for bent in changed:
                for read, write in ((read_unit, unit_text), (read_units, units_text)):
                    try:
                        found = read(bent)
                    except InvalidText as error:
                        self.assertIn(error.why, ("form", "closing", "many", "double", "strong", "missing"))
                        self.assertLessEqual(error.line, bent.count("\n"))
                        continue
                    self.assertEqual(write(found), bent)


class FormTest(TextsTest):
    def test_first_line(self):
        for line in ("", " ", "end", "outside a", "code a 1 local", "halt", "members a", "object", "archive", "Object a"):
            self.refuse(line + "\n", 0, "form")
        for name in ("A", "abcdefg", "", "a b", "a ", " a", "a1", "r0", "-"):
            self.refuse(text_of("object " + name, "end"), 0, "form")
            self.refuse(text_of("archive " + name, "end"), 0, "form")

    def test_lines_of_an_object(self):
        for line in (
            "", "End", "end ", " end", "end a", "halt", "word 1", "object b", "archive b", "outside", "outside B",
            "outside a b", "outside  a", "outside a ", "Outside a", "room 1", "roots a",
        ):
            self.refuse(text_of("object a", line, "end"), 1, "form")

    def test_lines_of_an_archive(self):
        for line in ("", "end a", "outside b", "code b 1 local", "halt", "archive b", "object", "object B", "object b c"):
            self.refuse(text_of("archive a", line, "end"), 1, "form")
            self.refuse(text_of("archive a", *object_lines("b"), line, "end"), 3, "form")

    def test_first_lines_of_pieces(self):
        for part in ("code", "data"):
            for rest in (
                "", " ", " b", " b 1", " b 1 local keep keep", " b 1 local kept", " b 1 local keep ", " b 1 local ",
                "  b 1 local", " b  1 local", " b 1  local", " b 1 local  keep", " b local 1", " 1 b local",
                " B 1 local", " abcdefg 1 local", " b1 1 local", "  1 local",
                " b 0 local", " b 3 local", " b 01 local", " b 32 local", " b +1 local", " b -1 local", " b 1.0 local",
                " b x local", " b 16local", " b 1 Local", " b 1 strong", " b 1 ", " b 1 keep", " b 1 keep local",
                " b 1 locals", " b True local", " b 1 True",
            ):
                self.refuse(text_of("object a", part + rest, "halt", "end"), 1, "form")
        for part in ("text", "Code", "rows", "codes", "dat"):
            self.refuse(text_of("object a", part + " b 1 local", "halt", "end"), 1, "form")

    def test_open_data_pieces(self):
        self.refuse(text_of("object a", "data b 1 open", "end"), 1, "form")
        self.refuse(text_of("object a", "data b 1 open keep", "end"), 1, "form")

    def test_outside_lines_stand_ahead_of_all_pieces(self):
        self.refuse(text_of("object a", "data b 1 local", "outside c", "end"), 2, "form")
        self.refuse(text_of("object a", "code b 1 local", "halt", "outside c", "end"), 3, "form")
        self.refuse(text_of("object a", "outside b", "data c 1 local", "outside d", "end"), 3, "form")

    def test_rows_stand_behind_pieces_of_their_part(self):
        for row in ("word 1", "address b"):
            self.refuse(text_of("object a", "code b 1 local", row, "halt", "end"), 2, "form")
            self.refuse(text_of("object a", "data c 1 local", "code b 1 local", row, "halt", "end"), 3, "form")
        for row in ("put r0 1", "halt", "back", "jump b", "out r0"):
            self.refuse(text_of("object a", "data b 1 local", row, "end"), 2, "form")
            self.refuse(text_of("object a", "code c 1 local", "halt", "data b 1 local", row, "end"), 4, "form")
        read_unit(text_of("object a", "code b 1 local", "room 1", "halt", "data c 1 local", "room 1", "end"))

    def test_rows_of_a_wrong_form(self):
        for row in ("put r0 65536", "put r3 1", "put r0 01", "put  r0 1", "halt ", " halt", "stop", "", "room 0", "room 121"):
            self.refuse(text_of("object a", "code b 1 local", row, "halt", "end"), 2, "form")
        for row in ("word 65536", "word -1", "word", "word 1 ", "address B", "room 0"):
            self.refuse(text_of("object a", "data b 1 local", row, "end"), 2, "form")

    def test_a_line_without_its_line_feed(self):
        self.refuse("object a\nend", 1, "form")
        self.refuse("object a", 0, "form")
        self.refuse("o", 0, "form")
        self.refuse("archive a\nobject b\nend\nen", 3, "form")
        self.refuse("object a\ncode b 1 local\nhalt", 2, "form")
        self.refuse("object a\noutside b\noutside b", 2, "form")
        self.refuse("object a\ndata b 1 local\nword 1\nend ", 3, "form")
        self.refuse(MAIN_TEXT[:-1], MAIN_TEXT.count("\n") - 1, "form")
        self.refuse_units(MAIN_TEXT + "object a\nend", MAIN_TEXT.count("\n") + 1, "form")

    def test_values_that_are_no_strings(self):
        for value in [value for value in all_odd_values() if not isinstance(value, str)]:
            self.refuse(value, 0, "form")
        for value in (7, ["object a", "end"], ("object a\nend\n",), MAIN):
            self.refuse(value, 0, "form")


class ClosingTest(TextsTest):
    def test_behind_a_code_piece_without_rows(self):
        self.refuse(text_of("object a", "code b 1 local", "end"), 2, "closing")
        self.refuse(text_of("object a", "code b 1 local", "code c 1 local", "halt", "end"), 2, "closing")
        self.refuse(text_of("object a", "code b 1 local", "data c 1 local", "end"), 2, "closing")
        self.refuse(text_of("archive a", "object a", "code b 1 local", "end", "end"), 3, "closing")

    def test_behind_a_row_that_is_not_closing(self):
        for row in ("put r0 1", "name r0 b", "ifzero r0 b", "call b", "callby r0", "out r0", "room 1"):
            self.refuse(text_of("object a", "code b 1 local", "halt", row, "end"), 4, "closing")
            self.refuse(text_of("object a", "code b 1 local", row, "data c 1 local", "end"), 3, "closing")
        for row in ("halt", "back", "jump b"):
            read_unit(text_of("object a", "code b 1 local", row, "end"))

    def test_data_pieces_need_no_closing_row(self):
        read_unit(text_of("object a", "data b 1 local", "data c 1 local", "room 1", "end"))

    def test_form_comes_first(self):
        for line in ("outside c", "word 1", "object c", "", "end ", "code c 1", "data c 1 open"):
            self.refuse(text_of("object a", "code b 1 local", line, "end"), 2, "form")
            self.refuse(text_of("object a", "code b 1 local", "out r0", line, "end"), 3, "form")
        self.refuse("object a\ncode b 1 local\nend", 2, "form")
        self.refuse("object a\ncode b 1 local\n", 2, "missing")


class ManyTest(TextsTest):
    def test_outside_names(self):
        lines = ["outside " + name for name in LETTERS[:9]]
        self.assertEqual(len(read_unit(text_of(*object_lines("a", *lines[:8]))).outside()), 8)
        self.refuse(text_of(*object_lines("a", *lines)), 9, "many")

    def test_pieces_of_an_object(self):
        self.assertEqual(len(read_unit(text_of(*object_lines("a", *piece_lines(LETTERS[:8]))))), 8)
        self.refuse(text_of(*object_lines("a", *piece_lines(LETTERS[:9]))), 17, "many")
        self.refuse(text_of("archive x", *object_lines("a", *piece_lines(LETTERS[:9])), "end"), 18, "many")

    def test_rows(self):
        for head, row in (("code b 1 local", "halt"), ("data b 1 local", "word 1")):
            unit = read_unit(text_of("object a", head, *[row] * 16, "end"))
            self.assertEqual(len(unit.piece("b")), 16)
            self.refuse(text_of("object a", head, *[row] * 17, "end"), 18, "many")

    def test_members(self):
        lines = [line for name in "bcdef" for line in object_lines(name)]
        self.assertEqual(len(read_unit(text_of("archive a", *lines[:8], "end"))), 4)
        self.refuse(text_of("archive a", *lines, "end"), 9, "many")

    def test_units(self):
        for word in ("object ", "archive "):
            lines = [line for name in "bcdef" for line in object_lines(name)] + [word + "a", "end"]
            self.assertEqual(len(read_units(text_of(*lines))), 6)
            self.refuse_units(text_of(*lines, "object g", "end"), 12, "many")
            self.refuse_units(text_of(*lines, "archive g", "end"), 12, "many")

    def test_pieces_of_a_book(self):
        lines = []
        for name in "abc":
            lines.extend(object_lines(name, *piece_lines(LETTERS[:8])))
        read_units(text_of(*lines, *object_lines("d")))
        at = len(lines)
        for head in ("code x 1 local", "data x 1 weak"):
            self.refuse_units(text_of(*lines, "object d", head, "halt", "end"), at + 1, "many")
            self.refuse_units(text_of(*lines, "archive d", "object e", head, "halt", "end", "end"), at + 2, "many")

    def test_pieces_of_members_count(self):
        lines = ["archive lib"]
        for name in "abc":
            lines.extend(object_lines(name, *piece_lines(LETTERS[:8])))
        self.assertEqual(len(read_units(text_of(*lines, "end"))), 1)
        self.refuse_units(text_of(*lines, "object d", "data x 1 local", "end", "end"), len(lines) + 1, "many")
        self.refuse_units(text_of(*lines, "end", "object d", "data x 1 local", "end"), len(lines) + 2, "many")

    def test_read_unit_takes_more_pieces_than_a_book_has(self):
        lines = ["archive lib"]
        for name in "abcd":
            lines.extend(object_lines(name, *piece_lines(LETTERS[:8])))
        unit = read_unit(text_of(*lines, "end"))
        self.assertEqual([len(member) for member in unit.members()], [8, 8, 8, 8])

    def test_form_and_closing_come_first(self):
        lines = piece_lines(LETTERS[:8])
        self.refuse(text_of("object a", *lines, "code i 1 none", "halt", "end"), 17, "form")
        self.refuse(text_of("object a", *lines[:-1], "out r0", "data i 1 local", "end"), 17, "closing")
        self.refuse(text_of("object a", "code b 1 local", *["halt"] * 16, "word 1", "end"), 18, "form")
        self.refuse(text_of("object a", "code b 1 local", *["out r0"] * 16, "end"), 18, "closing")
        names = ["outside " + name for name in LETTERS[:8]]
        self.refuse(text_of("object a", *names, "outside I", "end"), 9, "form")
        members = [line for name in "bcde" for line in object_lines(name)]
        self.refuse(text_of("archive a", *members, "archive f", "end"), 9, "form")
        self.refuse_units(text_of("archive a", "end", *members, "object g", "end", "object H"), 12, "form")


class DoubleTest(TextsTest):
    def test_outside_names(self):
        self.refuse(text_of("object a", "outside b", "outside c", "outside b", "end"), 3, "double")

    def test_pieces(self):
        self.refuse(text_of("object a", *piece_lines("bcb"), "end"), 5, "double")
        self.refuse(text_of("object a", "code b 1 local", "halt", "data b 1 weak keep", "end"), 3, "double")

    def test_pieces_called_as_outside_names(self):
        self.refuse(text_of("object a", "outside b", "outside c", "code c 1 open", "halt", "end"), 3, "double")

    def test_members(self):
        lines = object_lines("b") + object_lines("c") + object_lines("b")
        self.refuse(text_of("archive a", *lines, "end"), 5, "double")
        read_unit(text_of("archive a", *object_lines("a"), "end"))

    def test_units(self):
        for first in ("object", "archive"):
            for second in ("object", "archive"):
                text = text_of(first + " a", "end", "object b", "end", second + " a", "end")
                self.refuse_units(text, 4, "double")

    def test_names_of_other_objects_are_free(self):
        lines = ["outside x", "data b 1 local", "end"]
        read_unit(text_of("archive a", "object b", *lines, "object c", *lines, "end"))
        read_units(text_of("object b", *lines, "object x", *lines, "archive c", "object b", *lines, "end"))

    def test_many_comes_first(self):
        self.refuse(text_of("object x", *piece_lines("abcdefgha"), "end"), 17, "many")
        self.refuse(text_of("object x", *["outside " + name for name in "abcdefgha"], "end"), 9, "many")
        members = [line for name in "abcda" for line in object_lines(name)]
        self.refuse(text_of("archive a", *members, "end"), 9, "many")
        units = [line for name in "abcdefa" for line in object_lines(name)]
        self.refuse_units(text_of(*units), 12, "many")

    def test_closing_comes_first(self):
        self.refuse(text_of("object a", "code b 1 local", "code b 1 local", "halt", "end"), 2, "closing")


class StrongTest(TextsTest):
    def test_two_objects_of_a_book(self):
        for first in ("export", "open"):
            for second in ("export", "open"):
                text = text_of(
                    "object a", "data x 1 local", f"code b 1 {first}", "halt", "end",
                    "object c", "end",
                    "object d", "data x 1 export", f"code b 2 {second} keep", "halt", "end",
                )
                self.refuse_units(text, 9, "strong")
        self.refuse_units(
            text_of("object a", "data b 1 export", "end", "object c", "data b 1 export", "end"), 4, "strong"
        )

    def test_local_and_weak_pieces_are_free(self):
        for first, second in (("local", "open"), ("weak", "export"), ("export", "local"), ("open", "weak")):
            lines = ["object a", f"code b 1 {first}", "halt", "end", "object c", f"code b 1 {second}", "halt", "end"]
            self.assertEqual(len(read_units(text_of(*lines))), 2)

    def test_members_are_free(self):
        lines = ["code b 1 export", "halt", "end"]
        read_units(text_of("archive x", "object a", *lines, "object c", *lines, "end"))
        read_units(text_of("archive x", "object a", *lines, "end", "archive y", "object a", *lines, "end"))
        read_units(text_of("archive x", "object a", *lines, "end", "object b", *lines))
        read_units(text_of("object b", *lines, "archive x", "object a", *lines, "end"))
        read_unit(text_of("archive x", "object a", *lines, "object c", *lines, "end"))

    def test_double_comes_first(self):
        lines = ["code b 1 export", "halt"]
        self.refuse_units(text_of("object a", *lines, "end", "object c", "outside b", *lines, "end"), 6, "double")
        self.refuse(text_of("object a", *lines, *lines, "end"), 3, "double")
        text = text_of("object a", *lines, "end", "object c", "data b 1 local", *lines, "end")
        self.refuse_units(text, 6, "double")

    def test_many_and_closing_come_first(self):
        ahead = object_lines("x", *piece_lines("i", "code {} 1 open"))
        lines = object_lines("y", *piece_lines("abcdefgh"), *piece_lines("i", "code {} 1 open"))
        self.refuse_units(text_of(*ahead, *lines), 4 + 17, "many")
        lines = object_lines("y", "code a 1 local", "out r0", "code i 1 open", "halt")
        self.refuse_units(text_of(*ahead, *lines), 4 + 3, "closing")


class MissingTest(TextsTest):
    def test_text_that_ends_too_early(self):
        lines = LIB_TEXT.split("\n")[:-1]
        for at in range(1, len(lines)):
            self.refuse(text_of(*lines[:at]), at, "missing")

    def test_text_of_a_book(self):
        at = MAIN_TEXT.count("\n")
        self.refuse_units(MAIN_TEXT + "object a\n", at + 1, "missing")
        self.refuse_units(MAIN_TEXT + "archive a\nobject a\nend\n", at + 3, "missing")

    def test_the_empty_string(self):
        self.refuse_unit("", 0, "missing")
        self.assertEqual(read_units(""), [])

    def test_wrong_lines_come_first(self):
        self.refuse("object a\nobject b\n", 1, "form")
        self.refuse("object a\noutside b\noutside b\n", 2, "double")


class BehindOneUnitTest(TextsTest):
    def test_whatever_stands_there(self):
        for unit, text in UNITS:
            at = text.count("\n")
            for more in ("\n", " ", "end\n", "end", "object z\nend\n", MAIN_TEXT, "archive z\n", "x\ny\n", "~"):
                self.refuse_unit(text + more, at, "form")

    def test_the_unit_comes_first(self):
        self.refuse_unit("object a\nends\nend\nx\n", 1, "form")
        self.refuse_unit("object a\ncode b 1 local\nend\nx\n", 2, "closing")


if __name__ == "__main__":
    unittest.main()

"""Images told in lines: leastimage/listing.py."""

import random
import unittest

from leastimage.errors import InvalidBase, NotCode, Unanswered, UnknownRoot
from leastimage.images import link
from leastimage.listing import listing
from leastimage.rows import row_text

import models
from common import all_odd_values, book_of, raised

BOOK = book_of(
    "object o; outside x; outside y; code a 4 export; put r0 500; call x; name r1 d; jump a; data d 2 local; room 2;",
    "address y; end; archive lib; object io; code x 1 export; room 3; back; end; end",
)
LINES = """\
 4096 11280 stub x
 4097 15392 ..
 4098 28416 ..
 4099 52224 ..
 4100 11280 stub y
 4101 15393 ..
 4102 28416 ..
 4103 52224 ..
 4104  8194 o.a put r0 500
 4105 12532 ..
 4106 41206 o.a call x
 4107  9232 o.a name r1 d
 4108 13346 ..
 4109 33019 o.a jump a
 4110     0 lib.io.x room 3
 4111     0 ..
 4112     0 ..
 4113 57344 lib.io.x back
 4114     0 -
 4115     0 -
 4116     0 -
 4117     0 -
 4118     0 -
 4119     0 -
 4120     0 -
 4121     0 -
 4122     0 -
 4123     0 -
 4124     0 -
 4125     0 -
 4126     0 -
 4127     0 -
 4128     0 slot x
 4129     0 slot y
 4130     0 o.d room 2
 4131     0 ..
 4132  4100 o.d address y
"""


class ListingTest(unittest.TestCase):
    def test_each_kind_of_line(self):
        self.assertEqual("".join([line + "\n" for line in listing(link(BOOK, ["a"]), 4096)]), LINES)
        self.assertEqual(list(listing(image=link(BOOK, ["a"]), base=4096)), LINES.splitlines())

    def test_widths_of_numbers(self):
        book = book_of("object o; code a 1 export; halt; end")
        image = link(book, ["a"])
        self.assertEqual(list(listing(image, 16))[:2], ["   16  4096 o.a halt", "   17     0 -"])
        self.assertEqual(list(listing(image, 992))[0], "  992  4096 o.a halt")
        lines = list(listing(image, 65520))
        self.assertEqual([lines[0], lines[-1]], ["65520  4096 o.a halt", "65535     0 -"])

    def test_rows_of_two_forms(self):
        book = book_of("object o; code a 1 export; room 9; ifzero r0 a; call a; jump a; end")
        told = [line[12:] for line in listing(link(book, ["a"], reach=8), 16)]
        rows = ["o.a room 9", *[".."] * 8, "o.a ifzero r0 a", *[".."] * 4]
        rows += ["o.a call a", "..", "..", "o.a jump a", "..", ".."]
        self.assertEqual(told, rows + ["-"] * 12)

    def test_several_walks_side_by_side(self):
        image = link(BOOK, ["a"])
        lines = LINES.splitlines()
        one, other = listing(image, 4096), listing(image, 4096)
        self.assertEqual([next(one), next(one), next(other), next(one)], [lines[0], lines[1], lines[0], lines[2]])
        third = listing(image, 16)
        self.assertEqual(next(third)[:5], "   16")
        self.assertEqual(list(other), lines[1:])
        self.assertEqual(list(one), lines[3:])

    def test_wrong_bases_are_told_with_the_first_line(self):
        image = link(BOOK, ["a"], page=32)
        for value in all_odd_values() + [0, 16, 33, 48, 65536, 65536 - 32, "32", [32]]:
            walk = listing(image, value)
            self.assertEqual(raised(self, InvalidBase, next, walk).at, 0)

    def test_many_books(self):
        made = 0
        for at in range(60):
            chance = random.Random(at)
            book = models.random_book(chance, "abcdefgh"[: chance.randint(2, 8)], 3)
            try:
                image = link(book, models.random_roots(chance, book), reach=chance.choice([4, 8, 40]), page=16)
            except (UnknownRoot, Unanswered, NotCode):
                continue
            made += 1
            self.check(image, 16 * chance.randint(1, 1000))
        self.assertGreater(made, 5)

    def check(self, image, base):
        stubs, slots, _, rows, _ = models.offsets(image.book, image.needs(), image.page)
        told = ["-"] * image.size
        for name, at in stubs.items():
            told[at : at + 4] = ["stub " + name, "..", "..", ".."]
        for name, at in slots.items():
            told[at] = "slot " + name
        for place, at in rows.items():
            row = image.book.piece(place[:3]).rows()[place[3]]
            many = models.size(row, ("long", *place) in image.needs())
            first = ".".join(name for name in place[:3] if name) + " " + row_text(row)
            told[at : at + many] = [first] + [".."] * (many - 1)
        cells = image.cells(base)
        lines = [str(base + at).rjust(5) + " " + str(cells[at]).rjust(5) + " " + told[at] for at in range(image.size)]
        self.assertEqual(list(listing(image, base)), lines)


if __name__ == "__main__":
    unittest.main()

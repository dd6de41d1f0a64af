"""The examples at the end of the document."""

import unittest

from leastimage.books import Book
from leastimage.closure import needs_of
from leastimage.desk import Desk
from leastimage.errors import NotClosing
from leastimage.halves import high_half, low_half, whole
from leastimage.images import link
from leastimage.larger import outlook
from leastimage.objects import Object
from leastimage.pieces import Piece
from leastimage.stretches import greatest_stretch, stretch


class ExamplesTest(unittest.TestCase):
    def test_an_image(self):
        text = "object main\ncode main 1 export\nput r0 2\ncall twice\nout r0\nhalt\ncode twice 1 local\nadd r0 r0\nback\nend\n"
        image = link(Book.read(text), ["main"])
        self.assertEqual(
            [image.needs(), image.size, image.cells(16)[:7], image.records(), image.exports()],
            [
                [("live", "main", "", "main"), ("live", "main", "", "twice")],
                16,
                [8192, 12290, 40963, 61440, 4096, 16384, 57344],
                [],
                {"main": 0},
            ],
        )

    def test_stretches(self):
        text = "object o\ncode a 1 export\njump c\ncode b 8 local keep\nhalt\ncode c 1 local\nhalt\nend\n"
        book = Book.read(text)
        short = needs_of(book, ["a"], reach=9)
        place = ("o", "", "a", 0)
        self.assertEqual(short, [("live", "o", "", "a"), ("live", "o", "", "b"), ("live", "o", "", "c")])
        self.assertEqual([greatest_stretch(book, short, place), stretch(book, short, place, 7)], [(9, 0), 2])
        self.assertEqual(needs_of(book, ["a"], reach=8)[3:], [("long", "o", "", "a", 0)])

    def test_outlooks(self):
        text = "object main\ncode main 1 export\ncall twice\nhalt\ncode twice 1 local\nback\ncode spare 1 export\nback\nend\n"
        book = Book.read(text)
        needs = [("live", "main", "", "twice"), ("live", "main", "", "spare"), ("long", "main", "", "main", 0)]
        self.assertEqual([outlook(book, ["main"], need) for need in needs], ["surely", "ever", "never"])

    def test_a_desk(self):
        desk = Desk()
        twice = Piece("twice", "code", [("add", "r0", "r0"), ("back",)])
        rows = [("put", "r0", 2), ("call", "twice"), ("out", "r0"), ("halt",)]
        main = Piece("main", "code", rows, scope="export")
        desk.do(("put", Object("main", main, twice)), ("load", 16, False), ("go", 20))
        told = [desk("needs"), desk("answer main"), desk("out"), desk("end"), desk("outlook live main twice"), desk.history()]
        self.assertEqual(told, ["2", "main main", "4", "halt", "surely", (1, 0)])

    def test_halves(self):
        told = [high_half(1000), low_half(1000), high_half(65500), low_half(65500), whole(4, -24)]
        self.assertEqual(told, [4, -24, 0, -36, 1000])

    def test_a_piece_that_does_not_close(self):
        self.assertRaises(NotClosing, Piece, "a", "code", [("put", "r0", 1)])


if __name__ == "__main__":
    unittest.main()

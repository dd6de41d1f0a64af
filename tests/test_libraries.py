"""General libraries: point [29], leastimage/libraries.py."""

import unittest

from leastimage.errors import InvalidName, InvalidPage, InvalidRoots
from leastimage.fresh import fresh_names
from leastimage.images import Image, link
from leastimage.libraries import general_library
from leastimage.loading import Loaded
from leastimage.plain import Plain

from common import all_odd_values, book_of, raised


def rows_of(image, name):
    return image.book.piece(image.book.answer(name)).rows()


class LibraryTest(unittest.TestCase):
    def check(self, names, image):
        self.assertIsInstance(image, Image)
        self.assertEqual(list(image.exports()), sorted(names))
        self.assertEqual(image.roots(), [names[0]])
        self.assertTrue(image.is_least())
        for at, name in enumerate(names):
            self.assertEqual(rows_of(image, name), [("put", "r0", 60000 + at), ("out", "r0"), ("back",)])
            self.assertEqual(image.book.piece(image.book.answer(name)).alignment, 1)
        live = [need for need in image.needs() if need[0] == "live"]
        self.assertEqual(len(live), len(names))
        self.assertEqual([image.stubs(), image.records(), image.turnable()], [[], [], []])
        self.assertEqual(sorted(image.exports().values()), [4 * at for at in range(len(names))])

    def test_one_name(self):
        image = general_library(["main"])
        self.check(["main"], image)
        self.assertEqual([image.page, image.size, image.exports()], [16, 16, {"main": 0}])
        self.assertEqual(image.cells(16)[:4], [8192 + 234, 12288 + 96, 61440, 57344])

    def test_more_names_than_an_object_or_a_book_holds(self):
        for many in (2, 8, 9, 24, 25, 48, 49, 400):
            names = fresh_names(many, [])[::-1]
            self.check(names, general_library(names))

    def test_pages(self):
        for page in (16, 32, 64):
            image = general_library(["b", "a"], page=page)
            self.assertEqual([image.page, image.size], [page, page])
            self.check(["b", "a"], image)

    def test_each_name_has_its_output(self):
        names = fresh_names(30, [])
        loaded = Loaded(general_library(names), bases=[16])
        for at, name in enumerate(names):
            plain = Plain(loaded, name)
            plain.run()
            self.assertEqual([plain.outputs(), plain.ended], [[60000 + at], "done"])

    def test_ahead_of_all_others_it_is_the_exporter(self):
        book = book_of("object o; code a 1 open; halt; code main 1 export; call a; halt; end")
        loaded = Loaded(general_library(["a", "b"]), link(book, ["main"]), bases=[64, 128])
        self.assertEqual([loaded.exporter(name) for name in ("a", "b", "main")], [0, 0, 1])

    def test_a_tuple_and_the_list_that_was_given(self):
        names = ["a", "b"]
        image = general_library(names)
        names.append("c")
        self.assertEqual(list(image.exports()), ["a", "b"])
        self.assertEqual(general_library(("a", "b")), image)
        self.assertEqual(general_library(names=["a", "b"], page=16), image)

    def test_an_image_of_its_book(self):
        image = general_library(fresh_names(50, []))
        self.assertEqual(link(image.book, image.roots(), reach=image.reach, page=image.page), image)


class RefusedTest(unittest.TestCase):
    def test_no_names(self):
        for names in ([], ()):
            raised(self, InvalidRoots, general_library, names)
            raised(self, InvalidRoots, general_library, names, page=7)

    def test_values_that_are_no_list(self):
        for names in (None, True, 3, "main", ""):
            raised(self, InvalidRoots, general_library, names)

    def test_the_first_wrong_name(self):
        for wrong in [*all_odd_values(), 5, "Main", "abcdefg", "a b"]:
            error = raised(self, InvalidName, general_library, ["a", wrong, "a", ""])
            self.assertIs(error.value, wrong)
            self.assertIs(raised(self, InvalidName, general_library, [wrong], page=1).value, wrong)

    def test_a_name_that_stands_ahead(self):
        self.assertEqual(raised(self, InvalidName, general_library, ["a", "b", "c", "b", "a"]).value, "b")
        self.assertEqual(raised(self, InvalidName, general_library, ["a", "a"], page=0).value, "a")

    def test_pages_come_last(self):
        for page in [0, 1, 15, 17, 48, 128, -16, "16", *all_odd_values()]:
            self.assertIs(raised(self, InvalidPage, general_library, ["a"], page=page).value, page)


if __name__ == "__main__":
    unittest.main()

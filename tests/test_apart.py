"""Images taken apart: point [26], leastimage/apart.py."""

import random
import unittest

from leastimage.apart import taken_apart
from leastimage.books import Book, wide_book
from leastimage.closure import needs_of
from leastimage.errors import InvalidText
from leastimage.images import image_of, link
from leastimage.larger import general_book
from leastimage.objects import Object, wide_object
from leastimage.texts import read_units

import model_runs
import models
from common import book_of, code, data

REFERENCES = ("name", "jump", "ifzero", "call", "address")


def holders(book):
    """The objects, and members, of a book with their units' and members' names."""
    found = []
    for unit in book.units():
        if isinstance(unit, Object):
            found.append((unit.name, "", unit))
        else:
            found += [(unit.name, member.name, member) for member in unit.members()]
    return found


def names_in(holder):
    """All names that references of an object have."""
    return {row[-1] for piece in holder.pieces() for row in piece.rows() if row[0] in REFERENCES}


class Checks(unittest.TestCase):
    def check_book(self, image, apart):
        """Each sentence of [26], but for its fact."""
        live = [need[1:] for need in image.needs() if need[0] == "live"]
        old = []
        for unit, member, holder in holders(image.book):
            kept = [piece for piece in holder.pieces() if (unit, member, piece.name) in live]
            if kept:
                old.append((unit, member, holder, kept))
        self.assertIsInstance(apart, Book)
        self.assertEqual(len(apart), len(old))
        for unit, (title, member, holder, kept) in zip(apart.units(), old):
            self.assertIsInstance(unit, Object)
            self.assertEqual(unit.outside(), holder.outside())
            self.assertEqual(len(unit), len(kept))
            for new, piece in zip(unit.pieces(), kept):
                key = (title, member, piece.name)
                self.assertTrue(new.keep)
                self.assertEqual([new.part, new.rows(), new.alignment], [piece.part, piece.rows(), piece.alignment])
                answer = models.answer(image.book, piece.name)
                if piece.scope == "local" or answer[0] == key:
                    self.assertEqual([new.name, new.scope], [piece.name, piece.scope])
                else:
                    self.assertEqual(new.scope, "local")
                    self.assertNotEqual(new.name, piece.name)
                    self.assertNotIn(new.name, names_in(holder))

    def check_fact(self, image, apart):
        again = link(apart, image.roots(), reach=image.reach, page=image.page)
        self.assertEqual([again.size, again.stubs()], [image.size, image.stubs()])
        self.assertEqual(again.records(), image.records())
        self.assertEqual(list(again.exports().items()), list(image.exports().items()))
        for base in (64, 65536 - (image.size + 63) // 64 * 64):
            self.assertEqual(again.cells(base), image.cells(base))
        for name in image.stubs():
            self.assertEqual(again.layout.stub_offset(name), image.layout.stub_offset(name))
            self.assertEqual(again.layout.slot_offset(name), image.layout.slot_offset(name))
        old = [image.layout.piece_offset(need[1:]) for need in image.needs() if need[0] == "live"]
        new = [again.layout.piece_offset(key) for key in apart.ranked()]
        self.assertEqual(sorted(new), sorted(old))
        return again

    def check(self, image):
        apart = taken_apart(image)
        self.check_book(image, apart)
        if image.is_least():
            again = self.check_fact(image, apart)
            second = taken_apart(again)
            self.check_book(again, second)
            self.check_fact(again, second)
        return apart


class ApartTest(Checks):
    def test_an_object(self):
        book = book_of(
            "object o; code dead 1 export; halt; code main 2 export; call twice; halt; code twice 1 local; back; end"
        )
        apart = self.check(link(book, ["main"]))
        told = "code main 2 export keep\ncall twice\nhalt\ncode twice 1 local keep\nback\nend\n"
        self.assertEqual(apart.text().split("\n", 1)[1], told)

    def test_archives_become_objects(self):
        book = book_of(
            "archive l; object m; code a 1 export; call b; back; code dead 1 local; back; end; object n; code b 4 weak;",
            "name r0 d; back; data d 8 local keep; word 3; end; object x; code y 1 export; halt; end; end;",
            "object o; outside far; code main 1 export; call a; call far; halt; end; object p; code z 1 local; halt; end",
        )
        image = link(book, ["main"])
        apart = self.check(image)
        told = [[(piece.name, piece.scope) for piece in unit.pieces()] for unit in apart]
        self.assertEqual(told, [[("a", "export")], [("b", "weak"), ("d", "local")], [("main", "export")]])
        self.assertEqual([unit.outside() for unit in apart], [[], [], ["far"]])
        self.assertEqual(apart.drawable(), [])
        self.assertNotIn("drawn", [need[0] for need in needs_of(apart, ["main"])])

    def test_dead_objects_and_members_are_left_out(self):
        book = book_of(
            "object a; end; object o; code main 1 export; halt; end; archive l; object m; code main 1 export keep; halt;",
            "end; end; object z; outside q; data d 1 export; word 1; end",
        )
        apart = self.check(link(book, ["main"]))
        self.assertEqual([unit.pieces()[0].name for unit in apart], ["main"])
        self.assertEqual(len(apart), 1)

    def test_overshadowed_pieces_get_new_names(self):
        book = book_of(
            "object o; code a 1 weak keep; out r0; back; code b 1 weak keep; jump a; end;",
            "object p; code a 1 export; back; data b 1 export; word 5; end;",
            "archive l; object m; code c 1 export; call a; back; code a 1 export keep; halt; end; end;",
            "object q; code main 1 export; call c; halt; end",
        )
        image = link(book, ["main"])
        apart = self.check(image)
        first = apart.units()[0].pieces()
        self.assertEqual([piece.scope for piece in first], ["local", "local"])
        self.assertFalse({"a", "b"} & {piece.name for piece in first})
        # The jump to a leads to the answer, not to the piece that was called a.
        self.assertEqual(apart.target((apart.units()[0].name, "", first[1].name, 0))[3], "a")
        self.assertEqual(apart.answer("a")[0], apart.units()[1].name)
        self.assertEqual([piece.scope for piece in apart.units()[2].pieces()], ["export", "local"])

    def test_new_names_do_not_catch_references(self):
        # The pieces refer to all names that would come first.
        names = "abcdefghijklmnop"
        rows = [("name", "r0", name) for name in names[:15]] + [("halt",)]
        many = [code(name, [("back",)], scope="export") for name in names[:8]]
        more = [code(name, [("back",)], scope="export") for name in names[8:]]
        book = Book(
            Object("x", code("own", rows, scope="weak", keep=True), code("main", scope="export")),
            Object("y", code("own", scope="export", keep=True)),
            Object("u", *many),
            Object("v", *more),
        )
        apart = self.check(link(book, ["main"]))
        new = apart.units()[0].pieces()[0]
        self.assertEqual(new.scope, "local")
        self.assertNotIn(new.name, list(names[:15]))

    def test_new_names_differ_from_each_other_and_from_the_rest(self):
        weak = [code(name, scope="weak", keep=True) for name in "abcdefg"]
        strong = [code(name, scope="export", keep=True) for name in "abcdefg"]
        book = Book(Object("x", *weak, code("main", scope="export"), outside=list("klm")), Object("y", *strong))
        apart = self.check(link(book, ["main"]))
        names = [piece.name for piece in apart.units()[0].pieces()]
        self.assertEqual(len(set(names)), 8)
        self.assertFalse(set(names[:7]) & set("abcdefgklm"))

    def test_new_names_differ_from_those_that_nothing_refers_to(self):
        pieces = [code("own", scope="weak", keep=True)] + [code(name, keep=True) for name in "abcdef"]
        book = Book(Object("x", *pieces, code("main", scope="export")), Object("y", code("own", scope="export")))
        apart = self.check(link(book, ["main"]))
        self.assertEqual([piece.name for piece in apart.units()[0].pieces()][1:], [*"abcdef", "main"])
        self.assertNotIn(apart.units()[0].pieces()[0].name, ["own", *"abcdef"])

    def test_an_answer_that_is_dead_has_no_namesake(self):
        # The stub of d has an answer that is data and dead; a weak piece d is kept.
        book = book_of(
            "object o; outside d; code main 1 export; call d; halt; end; object p; data d 1 export; word 1; end;",
            "object q; code d 1 weak keep; back; end",
        )
        image = link(book, ["main"])
        self.assertEqual(image.exports(), {"main": image.layout.piece_offset(("o", "", "main"))})
        self.check(image)

    def test_local_pieces_keep_their_names(self):
        book = book_of(
            "object o; code a 1 local; call b; back; code b 1 local; back; code main 1 export; call a; jump c; end;",
            "object p; code a 1 export; call b; back; code b 1 local keep; jump a; code c 1 export; call a; halt; end",
        )
        apart = self.check(link(book, ["main"]))
        told = [[(piece.name, piece.scope) for piece in unit.pieces()] for unit in apart]
        self.assertEqual(told[0], [("a", "local"), ("b", "local"), ("main", "export")])
        self.assertEqual(told[1], [("a", "export"), ("b", "local"), ("c", "export")])

    def test_open_pieces_and_data(self):
        book = book_of(
            "object o; code a 16 open; name r1 t; load r0 r1 1; out r0; back; data t 4 local; address a; word 9; room 3;",
            "address t; code main 1 export; call a; name r2 e; halt; data e 1 weak; end",
        )
        apart = self.check(link(book, ["main"]))
        self.assertEqual([piece.scope for piece in apart.units()[0].pieces()], ["open", "local", "export", "weak"])

    def test_more_needs_than_the_book_has(self):
        book = book_of(
            "object o; outside far; code main 1 export; call near; halt; code near 1 local; back; code dead 1 export; back;",
            "end; archive l; object m; code x 1 weak; jump dead; end; end",
        )
        least = needs_of(book, ["main"])
        more = [("stub", "far"), ("long", "o", "", "main", 0), ("live", "o", "", "dead")]
        image = image_of(book, ["main"], least + more)
        apart = self.check(image)
        self.assertEqual([piece.name for piece in apart.units()[0].pieces()], ["main", "near", "dead"])
        self.assertFalse(image.is_least())
        image = image_of(book, ["main"], least + more + [("live", "l", "m", "x"), ("drawn", "l", "m")])
        self.assertEqual(len(self.check(image)), 2)

    def test_wider_than_other_books(self):
        members = "".join([f"object m{name}; code {name} 1 weak; back; end;" for name in "abcd"])
        archives = "".join([f"archive x{each};" + members.replace("m", each) + "end;" for each in "klpqr"])
        book = book_of(archives, "object o; code main 1 export; halt; end")
        kept = [code(name, keep=True, scope="weak") for name in "abcd"]
        units = [Object("z" + name, piece) for name in "abcdefgh" for piece in [code(name, scope="export", keep=True)]]
        wide = wide_book([*units, *book.units(), Object("t", *kept)])
        apart = self.check(link(wide, ["main"]))
        self.assertEqual(len(apart), 10)
        general = general_book(book_of("object o; code main 1 export; jump far; end; object p; data d 1 weak; word 2; end"))
        self.assertGreater(len(self.check(link(general, ["main"]))), 6)

    def test_wide_objects(self):
        names = [f"y{one}{other}" for one in "abcdef" for other in "abcdefgh"]
        units = [Object("t" + name, data(name, [("word", 1)], scope="export")) for name in names]
        general = general_book(wide_book([*units, Object("main", code("main", scope="export"))]))
        self.assertGreater(max(len(unit.outside()) for unit in general), 8)
        apart = self.check(link(general, ["main"]))
        self.assertEqual(max(len(unit.outside()) for unit in apart), len(names) + 1)
        self.assertRaises(InvalidText, read_units, apart.text())
        pieces = [code(name, scope="export", keep=True) for name in names]
        apart = self.check(link(wide_book([wide_object("wide", pieces, [])]), ["yaa"]))
        self.assertEqual([len(unit) for unit in apart], [len(names)])

    def test_by_name_and_the_image_stays(self):
        book = book_of("object o; code main 1 export; halt; end")
        image = link(book, ["main"])
        self.assertEqual(taken_apart(image=image), taken_apart(image))
        self.assertEqual([image.book, image], [book, link(book, ["main"])])


class RandomTest(Checks):
    def test_random_images(self):
        renamed = 0
        for seed in range(400):
            image = model_runs.random_image(random.Random(seed))
            apart = self.check(image)
            old = {need[3] for need in image.needs() if need[0] == "live"}
            renamed += len([key for key in apart.ranked() if key[2] not in old])
        self.assertGreater(renamed, 20)


if __name__ == "__main__":
    unittest.main()

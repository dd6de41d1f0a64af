"""Images: points [22] to [25], leastimage/images.py."""

import random
import unittest

from leastimage.books import Book, wide_book
from leastimage.cells import parted
from leastimage.closure import needs_of
from leastimage.errors import (
    InvalidBase,
    InvalidNeed,
    InvalidPage,
    InvalidReach,
    InvalidRoots,
    NotClosed,
    NotCode,
    Unanswered,
    UnknownRoot,
)
from leastimage.halves import signed, whole
from leastimage.images import Image, image_of, link
from leastimage.judging import is_closed, missing_step
from leastimage.layout import Layout
from leastimage.objects import Object

import models
from common import all_odd_values, book_of, code, raised

EXAMPLE = book_of(
    "object main; code main 1 export; put r0 2; call twice; out r0; halt; code twice 1 local; add r0 r0; back; end"
)
BOOK = book_of(
    "object o; outside x; outside y; code a 1 export; call x; name r0 d; jump b; data d 1 weak; address x; word 7;",
    "room 2; address d; address b; code b 16 local; ifzero r1 c; name r2 b; callby r2; halt; code c 1 weak; room 3; jump a; end;",
    "archive l; object m; code x 1 export; call x; put r1 1000; store r1 r2 3; back; code c 1 export; halt; end; end",
)


def live(*names, unit="o", member=""):
    return [("live", unit, member, name) for name in names]


def cell(word, r=0, s=0, part=0):
    """The number of an instruction cell, reckoned as point [8] tells it."""
    words = "fault halt high low add take load store jump ifzero call near jumpby callby back out".split()
    return words.index(word) * 4096 + r * 1024 + s * 256 + part % 256


def address(r, value):
    """The two cells that put an address into a register."""
    high = (value + 128) // 256
    return [cell("high", r, part=high), cell("low", r, part=value - 256 * high)]


class ExampleTest(unittest.TestCase):
    def test_the_example(self):
        image = link(EXAMPLE, ["main"])
        self.assertEqual(image.needs(), live("main", "twice", unit="main"))
        self.assertEqual(image.size, 16)
        self.assertEqual(image.cells(16)[:7], [8192, 12290, 40963, 61440, 4096, 16384, 57344])
        self.assertEqual(image.cells(16)[7:], [0] * 9)
        self.assertEqual(image.records(), [])
        self.assertEqual(image.exports(), {"main": 0})


class CellsTest(unittest.TestCase):
    def expected(self, base):
        """The cells of the image of a in BOOK, written down by hand."""
        stub = address(3, base + 32) + [cell("load", 3, 3), cell("jumpby", 3)]
        a = [cell("call", part=-4), *address(0, base + 33), cell("jump", part=9)]
        b = [cell("ifzero", 1, part=9), cell("near", 2, part=-1), cell("callby", 2), cell("halt")]
        x = [cell("call"), *address(1, 1000), cell("store", 1, 2, 3), cell("back")]
        c = [cell("halt")]
        data = [base, 7, 0, 0, base + 33, base + 16]
        return stub + a + [0] * 8 + b + x + c + [0] * 6 + [0] + data

    def test_two_bases(self):
        image = link(BOOK, ["a"])
        self.assertEqual(image.stubs(), ["x"])
        self.assertEqual(image.needs(), needs_of(BOOK, ["a"]))
        for base in (16, 4096, 32768 + 96, 65408, 65536 - 48):
            self.assertEqual(image.cells(base), self.expected(base), base)
        self.assertEqual(image.cells(base=16), image.cells(16))

    def test_long_forms(self):
        image = link(BOOK, ["a"], reach=4)
        base = 512
        cells = image.cells(base)
        offset = image.layout.row_offset(("o", "", "b", 0))
        target = image.layout.piece_offset(("l", "m", "c"))
        leap = address(3, base + target) + [cell("jumpby", 3)]
        self.assertEqual(cells[offset : offset + 5], [cell("ifzero", 1, part=2), cell("jump", part=4), *leap])
        offset = image.layout.row_offset(("o", "", "a", 2))
        target = image.layout.piece_offset(("o", "", "b"))
        self.assertEqual(cells[offset : offset + 3], address(3, base + target) + [cell("jumpby", 3)])
        self.assertIn((offset, "high", target), image.records())

    def test_records(self):
        image = link(BOOK, ["a"])
        told = [(0, "high", 32), (1, "low", 32), (5, "high", 33), (6, "low", 33)]
        told += [(33, "whole", 0), (37, "whole", 33), (38, "whole", 16)]
        self.assertEqual(image.records(), told)

    def test_an_address_behind_the_last_one(self):
        book = book_of("object o; code a 1 export; name r0 e; halt; data e 16 local; end")
        image = link(book, ["a"])
        self.assertEqual([image.size, image.layout.piece_offset(("o", "", "e"))], [16, 16])
        self.assertEqual(image.cells(65520)[:2], [cell("high"), cell("low")])
        self.assertEqual(image.cells(65504)[:2], address(0, 65520))

    def test_returned_lists_are_new(self):
        image = link(BOOK, ["a"])
        before = [image.roots(), image.needs(), image.cells(16), image.records(), image.stubs(), image.turnable()]
        for told in (image.roots, image.needs, image.records, image.stubs, image.turnable, image.exports):
            told().clear()
        image.cells(16).clear()
        after = [image.roots(), image.needs(), image.cells(16), image.records(), image.stubs(), image.turnable()]
        self.assertEqual(after, before)
        self.assertEqual(image.exports(), {"a": 4, "c": 25, "x": 20})


class BasesTest(unittest.TestCase):
    def test_bounds(self):
        for page in (16, 32, 64):
            image = link(EXAMPLE, ["main"], page=page)
            self.assertEqual(image.size, page)
            for base in (page, 2 * page, 65536 - page):
                self.assertEqual(len(image.cells(base)), page)
            for base in (0, -page, page - 1, page + 1, page // 2, 3 * page // 2, 65536 - page + 16, 65536, 65536 + page):
                self.assertEqual(raised(self, InvalidBase, image.cells, base).at, 0)

    def test_the_size_counts(self):
        book = book_of("object o; code a 1 export; room 40; halt; data d 1 export keep; room 7; end")
        image = link(book, ["a"])
        self.assertEqual(image.size, 55)
        self.assertEqual(len(image.cells(65536 - 64)), 55)
        self.assertEqual(raised(self, InvalidBase, image.cells, 65536 - 48).at, 0)
        full = link(book_of("object o; code a 1 export; room 40; halt; data d 1 export keep; room 16; end"), ["a"])
        self.assertEqual(len(full.cells(65536 - 64)), 64)

    def test_an_image_that_is_too_large(self):
        rows = [("room", 120)] * 15 + [("halt",)]
        units = [Object(name, *[code(piece, rows, keep=True) for piece in "abcdefgh"]) for name in "klmno"]
        first = Object("a", code("main", scope="export"))
        image = link(wide_book([first] + units), ["main"])
        self.assertGreater(image.size, 65536)
        for base in (16, 32, 65520):
            raised(self, InvalidBase, image.cells, base)

    def test_other_values(self):
        image = link(EXAMPLE, ["main"])
        for value in all_odd_values() + ["16", [16], (16,), EXAMPLE]:
            self.assertEqual(raised(self, InvalidBase, image.cells, value).at, 0)


class ToldTest(unittest.TestCase):
    def test_attributes(self):
        image = link(BOOK, ("a", "x"), reach=30, page=32)
        self.assertIs(image.__class__, Image)
        self.assertEqual([image.book, image.reach, image.page, image.roots()], [BOOK, 30, 32, ["a", "x"]])
        self.assertIs(image.layout.__class__, Layout)
        self.assertEqual([image.layout.page, image.layout.size], [32, image.size])
        self.assertEqual(image.needs(), needs_of(BOOK, ["a", "x"], reach=30))

    def test_defaults(self):
        for image in (link(BOOK, ["a"]), image_of(BOOK, ["a"], needs_of(BOOK, ["a"]))):
            self.assertEqual([image.reach, image.page], [40, 16])
        self.assertEqual(link(book=BOOK, roots=["a"], reach=40, page=16), link(BOOK, ["a"]))
        self.assertEqual(image_of(book=BOOK, roots=["a"], needs=needs_of(BOOK, ["a"])), link(BOOK, ["a"]))

    def test_roots_are_copied(self):
        roots = ["a"]
        image = link(BOOK, roots)
        roots[0] = "x"
        self.assertEqual(image.roots(), ["a"])

    def test_exports(self):
        book = book_of(
            "object o; code z 1 export; call w; halt; code w 1 weak; halt; code b 1 weak keep; room 2; halt;",
            "code n 1 export; halt; code k 1 local keep; halt; data d 1 export keep; end;",
            "object p; code b 1 export keep; halt; end;",
            "archive l; object m; code c 1 open; halt; code w 1 export; halt; end; end",
        )
        image = link(book, ["z"])
        # w of the member answers, b of o does not, n is not live, d is data.
        told = image.exports()
        self.assertEqual(list(told), ["b", "w", "z"])
        keys = [("p", "", "b"), ("l", "m", "w"), ("o", "", "z")]
        self.assertEqual(list(told.values()), [image.layout.piece_offset(key) for key in keys])
        self.assertEqual(list(link(book, ["c", "z"]).exports()), ["b", "c", "w", "z"])

    def test_stubs_and_turnable(self):
        book = book_of(
            "object z; outside q; outside b; code a 1 export; call q; call b; call c; halt; data d 1 local keep; word 1; address q; end;",
            "object y; code c 1 open; jump e; code e 1 local; jump c; code f 1 local; jump c; end",
        )
        image = link(book, ["a"])
        self.assertEqual(image.stubs(), ["b", "c", "q"])
        told = [("y", "", "e", 0), ("z", "", "a", 0), ("z", "", "a", 1), ("z", "", "a", 2), ("z", "", "d", 1)]
        self.assertEqual(image.turnable(), told)
        self.assertEqual(link(EXAMPLE, ["main"]).turnable(), [])
        self.assertEqual(link(EXAMPLE, ["main"]).stubs(), [])

    def test_is_least(self):
        needs = needs_of(EXAMPLE, ["main"])
        self.assertIs(link(EXAMPLE, ["main"]).is_least(), True)
        self.assertIs(image_of(EXAMPLE, ["main"], needs).is_least(), True)
        self.assertIs(image_of(EXAMPLE, ["main"], needs[::-1] + needs).is_least(), True)
        self.assertIs(image_of(EXAMPLE, ["main"], needs + [("stub", "main")]).is_least(), False)
        self.assertIs(image_of(EXAMPLE, ["main"], needs + [("long", "main", "", "main", 1)]).is_least(), False)

    def test_equal(self):
        image = link(BOOK, ["a", "x"])
        self.assertTrue(image == link(Book.read(BOOK.text()), ("a", "x"), reach=40, page=16))
        self.assertFalse(image != link(BOOK, ["a", "x"]))
        for other in (
            link(BOOK + Object("more"), ["a", "x"]),
            link(BOOK, ["x", "a"]),
            link(BOOK, ["a"]),
            link(BOOK, ["a", "x"], reach=41),
            link(BOOK, ["a", "x"], page=32),
            image_of(BOOK, ["a", "x"], image.needs() + [("stub", "a")]),
        ):
            self.assertFalse(image == other)
            self.assertTrue(image != other)
        for value in all_odd_values() + [BOOK, image.needs(), image.layout]:
            self.assertFalse(image == value)
            self.assertFalse(value == image)

    def test_length_truth_and_repr(self):
        image = link(BOOK, ["a"])
        self.assertEqual([len(image), image.size, bool(image), repr(image)], [39, 39, True, "Image(39 cells)"])
        self.assertEqual(repr(link(EXAMPLE, ["main"], page=64)), "Image(64 cells)")


class RefusedTest(unittest.TestCase):
    TEXT = (
        "object o; outside s; code a 1 export; call b; call s; name r0 s; name r0 gone; call d; jump d; data d 1 export;",
        "address gone; code b 1 local; ifzero r0 d; halt; code n 1 export; jump gone; code u 1 local keep; call far; halt; end",
    )

    def both(self, book, roots):
        """The two calls that make an image of the needs of a book."""
        yield link, (book, roots)
        yield image_of, (book, roots, needs_of(book, roots))

    def test_unknown_roots(self):
        book = book_of("object o; code a 1 export; jump gone; data d 1 export; code c 1 local; halt; end")
        for roots, name in ((["x"], "x"), (["a", "x", "y"], "x"), (["d"], "d"), (["a", "d", "x"], "d"), (["c"], "c")):
            for call, values in self.both(book, roots):
                self.assertEqual(raised(self, UnknownRoot, call, *values).name, name)

    def test_unanswered(self):
        for rows in ("call gone; halt", "name r1 gone; halt", "ifzero r0 gone; halt", "jump gone"):
            book = book_of(f"object o; code a 1 export; out r0; {rows}; end")
            for call, values in self.both(book, ["a"]):
                error = raised(self, Unanswered, call, *values)
                self.assertEqual((error.name, error.spot), ("gone", ("o", "", "a", 1)))
        book = book_of("object o; code a 1 export; halt; data d 1 local keep; word 0; address gone; end")
        for call, values in self.both(book, ["a"]):
            self.assertEqual(raised(self, Unanswered, call, *values).spot, ("o", "", "d", 1))

    def test_not_code(self):
        for rows in ("call d; halt", "ifzero r0 d; halt", "jump d"):
            book = book_of(f"object o; code a 1 export; out r0; {rows}; data d 1 weak; end")
            for call, values in self.both(book, ["a"]):
                error = raised(self, NotCode, call, *values)
                self.assertEqual((error.name, error.spot), ("d", ("o", "", "a", 1)))

    def test_what_may_lead_to_data_or_nowhere(self):
        link(book_of("object o; code a 1 export; name r0 d; halt; data d 1 local; address d; end"), ["a"])
        # Behind a stub there may be data or nothing, and what is not live may lead nowhere.
        link(book_of("object o; outside x; outside d; code a 1 export; call x; jump d; end; object p; data d 1 export; end"), ["a"])
        link(book_of("object o; code a 1 export; halt; code b 1 export; jump gone; end"), ["a"])

    def test_the_first_wrong_reference_by_ranks_and_rows(self):
        text = book_of(*self.TEXT).text()
        for old, new, error, name, spot in (
            ("", "", Unanswered, "gone", ("o", "", "a", 3)),
            ("name r0 gone\n", "", NotCode, "d", ("o", "", "a", 3)),
            ("call d\njump d\n", "halt\n", Unanswered, "gone", ("o", "", "d", 0)),
            ("address gone\n", "", NotCode, "d", ("o", "", "b", 0)),
            ("ifzero r0 d\n", "", Unanswered, "far", ("o", "", "u", 0)),
        ):
            # Each wrong reference is put right, one behind the other.
            text = text.replace(old, new)
            for call, values in self.both(Book.read(text), ["a"]):
                told = raised(self, error, call, *values)
                self.assertEqual((told.name, told.spot), (name, spot))
        for call, values in self.both(Book.read(text.replace("call far\n", "")), ["a"]):
            self.assertIs(call(*values).__class__, Image)

    def test_all_errors_of_link_in_their_order(self):
        book = book_of(*self.TEXT)
        for roots in ([], ["a", "a"], "a", None, ["A"], list("abcde"), [None], True):
            raised(self, InvalidRoots, link, book, roots, reach=3, page=3)
        for reach in (3, 101, None, True, "40"):
            self.assertIs(raised(self, InvalidReach, link, book, ["x"], reach=reach, page=3).value, reach)
        for page in (3, 17, 0, 128, None, True, "16", [16]):
            self.assertIs(raised(self, InvalidPage, link, book, ["x"], page=page).value, page)
        self.assertEqual(raised(self, UnknownRoot, link, book, ["a", "x"]).name, "x")
        raised(self, Unanswered, link, book, ["a"])

    def test_all_errors_of_image_of_in_their_order(self):
        book = book_of(*self.TEXT)
        needs = needs_of(book, ["a"])
        for roots in ([], ["a", "a"], "a", None, ["A"], list("abcde"), [None], True):
            raised(self, InvalidRoots, image_of, book, roots, None, reach=3, page=3)
        for reach in (3, 101, None, True, "40"):
            self.assertIs(raised(self, InvalidReach, image_of, book, ["x"], None, reach=reach, page=3).value, reach)
        for page in (3, 17, 0, 128, None, True, "16", [16]):
            self.assertIs(raised(self, InvalidPage, image_of, book, ["x"], None, page=page).value, page)
        for value in (None, True, "live", BOOK):
            self.assertEqual(raised(self, InvalidNeed, image_of, book, ["x"], value).at, -1)
        for value in all_odd_values() + [list(needs[0]), ("live", "o", "", "q")]:
            self.assertEqual(raised(self, InvalidNeed, image_of, book, ["x", "a"], [needs[0], value, value]).at, 1)
        error = raised(self, NotClosed, image_of, book, ["x", "a"], needs[:-1])
        self.assertEqual(error.need, needs[-1])
        self.assertEqual(raised(self, UnknownRoot, image_of, book, ["a", "x"], needs).name, "x")
        raised(self, Unanswered, image_of, book, ["a"], needs)


class NeedlessTest(unittest.TestCase):
    def test_closed_sets_with_needless_needs(self):
        needs = needs_of(EXAMPLE, ["main"])
        more = [("stub", "main"), ("long", "main", "", "main", 1)]
        image = image_of(EXAMPLE, ["main"], more + needs + needs)
        self.assertEqual(image.needs(), sorted(needs + more))
        self.assertEqual(image.stubs(), ["main"])
        self.assertEqual(image.exports(), {"main": 4})
        told = address(3, 16 + 16) + [cell("load", 3, 3), cell("jumpby", 3)] + address(0, 2)
        told += address(3, 16 + 11) + [cell("callby", 3), cell("out"), cell("halt"), cell("add"), cell("back")]
        self.assertEqual(image.cells(16), told + [0] * (17 - len(told)))
        self.assertEqual(image.records(), [(0, "high", 16), (1, "low", 16), (6, "high", 11), (7, "low", 11)])

    def test_needs_of_another_reach_may_be_closed(self):
        book = book_of("object o; code a 1 export; room 30; jump a; end")
        needs = needs_of(book, ["a"], reach=10)
        self.assertEqual(image_of(book, ["a"], needs).needs(), needs)
        error = raised(self, NotClosed, image_of, book, ["a"], needs_of(book, ["a"]), reach=10)
        self.assertEqual(error.need, ("long", "o", "", "a", 1))

    def test_a_missing_need_for_each_rule(self):
        needs = needs_of(BOOK, ["a"], reach=4)
        for need in needs:
            left = [other for other in needs if other != need]
            told = raised(self, NotClosed, image_of, BOOK, ["a"], left, reach=4).need
            self.assertEqual(told, need)
            self.assertEqual(told, missing_step(BOOK, ["a"], left, reach=4)[0])


class ModelTest(unittest.TestCase):
    """Images of many books: what their cells lead to, at several bases."""

    def bases(self, chance, image):
        most = (65536 - image.size) // image.page
        return [image.page, most * image.page, *[chance.randint(1, most) * image.page for _ in range(4)]]

    def check_reference(self, image, cells, base, place, row, target):
        """The halves or the distance in the cells of a row lead to its target."""
        at = image.layout.row_offset(place)
        if target[0] == "stub":
            to = image.layout.stub_offset(target[1])
        else:
            to = image.layout.piece_offset(target[1:])
        address_told = (base + to) % 65536
        if row[0] == "address":
            self.assertEqual(cells[at], address_told)
        elif ("long", *place) in image.needs():
            high = at + (2 if row[0] == "ifzero" else 0)
            parts = parted(cells[high])[3], signed(parted(cells[high + 1])[3])
            self.assertEqual(whole(*parts), address_told)
        else:
            word, _, _, part = parted(cells[at])
            self.assertEqual(word, "near" if row[0] == "name" else row[0])
            self.assertEqual((base + at + signed(part)) % 65536, address_told)
            self.assertLessEqual(abs(to - at), image.reach)

    def check_image(self, chance, image):
        told = {}
        for base in self.bases(chance, image):
            cells = image.cells(base)
            self.assertEqual(len(cells), image.size)
            for offset, number in enumerate(cells):
                told.setdefault(offset, set()).add(number)
            for name in image.stubs():
                at = image.layout.stub_offset(name)
                slot = base + image.layout.slot_offset(name)
                self.assertEqual(cells[at : at + 4], address(3, slot) + [cell("load", 3, 3), cell("jumpby", 3)])
                self.assertEqual(cells[image.layout.slot_offset(name)], 0)
            for key, _, at, row, target, _ in models.references(image.book):
                if ("live", *key) in image.needs():
                    self.check_reference(image, cells, base, (*key, at), row, target)
        moved = [offset for offset in told if len(told[offset]) > 1]
        self.assertTrue(set(moved) <= {offset for offset, _, _ in image.records()})

    def check_records(self, image):
        # From these four bases on, each half and each whole differs somewhere.
        bases = [base for base in (64, 128, 192, 32768) if base + image.size <= 65536]
        cells = [image.cells(base) for base in bases]
        moved = [at for at in range(image.size) if len({told[at] for told in cells}) > 1]
        self.assertEqual(sorted(offset for offset, _, _ in image.records()), moved)
        self.assertEqual(image.records(), sorted(set(image.records())))
        for base, told in zip(bases, cells):
            for offset, field, target in image.records():
                full = base + target
                high, low = (full + 128) // 256, (full + 128) % 256 - 128
                value = {"whole": full, "high": high, "low": low % 256}[field]
                self.assertEqual(told[offset] if field == "whole" else told[offset] % 256, value)

    def test_many_books(self):
        made = 0
        for at in range(240):
            chance = random.Random(at)
            names = "abcdefgh"[: chance.randint(3, 8)]
            book = models.random_book(chance, names, 3)
            if at % 4 > 0:
                # With an answer for each name most of them can be linked.
                book = wide_book([*book, Object("z", *[code(name, scope="weak") for name in names])])
            roots = models.random_roots(chance, book)
            reach, page = chance.choice([4, 8, 15, 40]), chance.choice([16, 32, 64])
            try:
                image = link(book, roots, reach=reach, page=page)
            except (UnknownRoot, Unanswered, NotCode) as error:
                self.check_refusal(book, roots, reach, error)
                continue
            made += 1
            self.check_told(image)
            self.check_image(chance, image)
            self.check_records(image)
            needs = [need for need in models.all_needs(book) if chance.random() < 0.3] + image.needs()
            if is_closed(book, roots, needs, reach=reach) and made % 2 == 0:
                self.check_needless(chance, book, roots, needs, reach, page)
        self.assertGreater(made, 100)

    def check_needless(self, chance, book, roots, needs, reach, page):
        try:
            image = image_of(book, roots, needs, reach=reach, page=page)
        except (Unanswered, NotCode):
            return
        self.assertEqual(image.needs(), sorted(set(needs)))
        self.check_told(image)
        self.check_image(chance, image)
        self.check_records(image)

    def check_told(self, image):
        needs = image.needs()
        answers = {name: models.answer(image.book, name) for name in models.known(image.book)}
        told = {}
        for name, found in answers.items():
            if found and found[1].part == "code" and ("live", *found[0]) in needs:
                told[name] = image.layout.piece_offset(found[0])
        self.assertEqual(list(image.exports().items()), list(told.items()))
        turnable = []
        for key, _, at, _, target, _ in models.references(image.book):
            if ("live", *key) in needs and target[0] == "stub":
                turnable.append((*key, at))
        self.assertEqual(image.turnable(), sorted(turnable))
        self.assertEqual(image.is_least(), needs == models.least(image.book, image.roots(), image.reach))

    def check_refusal(self, book, roots, reach, error):
        parts = {key: piece.part for key, _, piece in models.all_pieces(book)}
        for root in roots:
            found = models.answer(book, root)
            if found is None or found[1].part == "data":
                self.assertEqual((error.code, error.name), ("UnknownRoot", root))
                return
        needs = models.least(book, roots, reach)
        for key, _, at, row, target, _ in models.references(book):
            if ("live", *key) in needs:
                to_data = target[0] == "piece" and parts[target[1:]] == "data"
                if target[0] == "none" or (to_data and row[0] in ("jump", "ifzero", "call")):
                    code_word = "NotCode" if to_data else "Unanswered"
                    self.assertEqual((error.code, error.name, error.spot), (code_word, row[-1], (*key, at)))
                    return
        self.fail("nothing is wrong")


if __name__ == "__main__":
    unittest.main()

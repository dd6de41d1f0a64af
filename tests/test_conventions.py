"""Points [1] and [2], for the whole program."""

import copy
import os
import subprocess
import sys
import unittest

from leastimage.apart import taken_apart
from leastimage.books import Book, wide_book
from leastimage.cells import cell_of, parted, with_part
from leastimage.chains import is_chain, is_step
from leastimage.closure import Closure, needs_of
from leastimage.desk import Desk
from leastimage.errors import (
    InvalidBase,
    InvalidDeed,
    InvalidImage,
    InvalidNeed,
    InvalidNumber,
    InvalidPage,
    InvalidReach,
    InvalidRow,
    UnknownImage,
    UnknownPiece,
    UnknownPlace,
)
from leastimage.forms import placed, row_cells, row_fields, row_size, stub_cells
from leastimage.halves import high_half, low_half, signed, unsigned, whole, wrapped
from leastimage.images import image_of, link
from leastimage.judging import is_closed, judge, missing_step
from leastimage.larger import general_book, is_larger, outlook, witness
from leastimage.layout import Layout
from leastimage.libraries import general_library
from leastimage.linkers import Linker
from leastimage.listing import listing
from leastimage.loading import Loaded
from leastimage.machine import Machine
from leastimage.needs import check_needs, check_reach, check_roots, is_long, is_need, live_pieces, stub_names
from leastimage.objects import Archive, Object, wide_object
from leastimage.pieces import Piece
from leastimage.plain import Plain
from leastimage.rows import is_closing, is_code_row, is_data_row, name_in, read_row, row_text
from leastimage.runs import Run
from leastimage.stretches import greatest_stretch, laid, points, stretch
from leastimage.texts import read_unit, read_units, unit_text, units_text
from leastimage.values import is_address
from leastimage.words import is_name, is_number, is_register, is_word

from common import book_of, raised

TEXT = (
    "object o; outside far; code main 1 export; call far; name r0 d; call low; halt; code low 1 local; put r1 1; out r1; back;",
    "data d 1 local; word 1; address main; end; archive l; object m; code far 1 export; back; end; end",
)
BOOK = book_of(*TEXT)
MAIN = ("o", "", "main")
IMAGE = link(BOOK, ["main"])
LIVE = ("live", *MAIN)

# A script that tells much about books and runs, whose output must always be the same.
SCRIPT = """
import random
import model_runs
from leastimage.closure import Closure
from leastimage.larger import general_book, witness
from leastimage.loading import Loaded
from leastimage.runs import Run
from leastimage.apart import taken_apart
for seed in range(12):
    image = model_runs.random_image(random.Random(seed))
    closure = Closure(image.book, image.roots(), reach=image.reach)
    closure.finish()
    print(list(closure.walk()), image.needs(), image.records(), image.exports(), image.stubs(), image.turnable())
    print(taken_apart(image).text(), general_book(image.book).text())
    print([witness(image.book, image.roots(), ("stub", name)) for name in image.book.known()])
    loaded = Loaded(image, bases=[64])
    run = Run(loaded, list(image.exports())[0], early=seed > 5)
    print(run.run(40), run.ended, run.registers(), run.plain().bound(), loaded.slots(), loaded.entries())
"""


class AlwaysTheSameTest(unittest.TestCase):
    def told(self, seed):
        here = os.path.dirname(os.path.abspath(__file__))
        paths = os.pathsep.join([here, os.path.dirname(here)])
        more = {"PYTHONHASHSEED": str(seed), "PYTHONPATH": paths, "PYTHONDONTWRITEBYTECODE": "1"}
        done = subprocess.run([sys.executable, "-c", SCRIPT], env={**os.environ, **more}, capture_output=True, check=True)
        return done.stdout

    def test_no_order_depends_on_hashes(self):
        told = self.told(1)
        self.assertGreater(len(told), 10000)
        self.assertEqual(self.told(2), told)
        self.assertEqual(self.told(3), told)

    def test_equal_calls_on_equal_states(self):
        for call in (
            lambda: Book(*BOOK.units()),
            lambda: link(BOOK, ["main"], reach=5),
            lambda: general_book(BOOK),
            lambda: witness(BOOK, ["main"], ("live", "o", "", "low")),
            lambda: missing_step(BOOK, ["main"], []),
            lambda: taken_apart(IMAGE),
            lambda: general_library(["a", "b"], page=32),
            lambda: Loaded(IMAGE, bases=[16]).entries(),
            lambda: list(listing(IMAGE, 16)),
        ):
            self.assertEqual(call(), call())


class ByNameTest(unittest.TestCase):
    def test_values_and_rows(self):
        self.assertTrue(is_name(value="a") and is_register(value="r0") and is_word(value=1) and is_number(value=1, least=0, most=1))
        self.assertTrue(is_code_row(value=("back",)) and is_data_row(value=("word", 1)) and is_closing(row=("back",)))
        self.assertEqual([name_in(row=("jump", "a")), row_text(row=("back",)), read_row(text="back")], ["a", "back", ("back",)])
        self.assertEqual([high_half(address=256), low_half(address=255), whole(high=1, low=-1)], [1, -1, 255])
        self.assertEqual([signed(part=255), unsigned(value=-1), wrapped(value=-1)], [-1, 255, 65535])
        self.assertEqual([cell_of(word="low", r=1, s=2, part=3), with_part(cell=4096, part=7)], [13827, 4103])
        self.assertEqual(parted(cell=13827), ("low", 1, 2, 3))

    def test_forms(self):
        jump = ("jump", "a")
        self.assertEqual([row_size(row=jump, long=True), row_fields(row=jump, long=True)], [3, [(0, "high"), (1, "low")]])
        self.assertEqual(row_cells(row=jump, at=5, target=5, long=False), [8 * 4096])
        self.assertEqual([len(stub_cells(slot=7)), placed(cell=4096, field="whole", address=9)], [4, 9])

    def test_pieces_objects_and_texts(self):
        piece = Piece(name="a", part="code", rows=[("back",)], alignment=2, scope="weak", keep=True)
        unit = Object("a").with_piece(piece=piece)
        self.assertEqual([unit.piece(name="a"), wide_object(name="a", pieces=[piece], outside=[])], [piece, unit])
        self.assertEqual(Archive("l", unit).member(name="a"), unit)
        self.assertEqual([read_unit(text=unit_text(unit=unit)), read_units(text=units_text(units=[unit]))], [unit, [unit]])

    def test_books_and_needs(self):
        place = (*MAIN, 0)
        self.assertEqual([BOOK.unit(name="o"), BOOK.piece(key=MAIN).name, BOOK.owner(key=MAIN).name], [BOOK.units()[0], "main", "o"])
        self.assertEqual([BOOK.answer(name="main"), BOOK.references(key=MAIN)], [MAIN, [0, 1, 2]])
        self.assertEqual([BOOK.target(place=place), BOOK.behind(place=place)], [("stub", "far"), ("l", "m", "far")])
        self.assertEqual(BOOK.without(name="l").with_unit(unit=BOOK.units()[1], at=1), BOOK)
        self.assertEqual([wide_book(units=BOOK.units()), Book.read(text=BOOK.text())], [BOOK, BOOK])
        self.assertTrue(is_need(book=BOOK, value=LIVE))
        told = [check_needs(book=BOOK, needs=[LIVE]), check_roots(roots=["main"]), check_reach(reach=9)]
        self.assertEqual(told, [None, None, None])
        self.assertEqual([live_pieces(book=BOOK, needs=[LIVE]), stub_names(needs=[LIVE]), is_long(needs=[LIVE], place=place)], [[MAIN], [], False])

    def test_stretches_and_closures(self):
        needs = IMAGE.needs()
        place = (*MAIN, 2)
        first, last = points(book=BOOK, needs=needs)[0], points(BOOK, needs)[-1]
        self.assertGreater(laid(book=BOOK, needs=needs, lower=first, higher=last, start=0), 0)
        self.assertEqual(stretch(book=BOOK, needs=needs, place=place, start=0), greatest_stretch(book=BOOK, needs=needs, place=place)[0])
        closure = Closure(book=BOOK, roots=["main"], reach=40)
        closure.add(need=LIVE)
        self.assertEqual([closure.reason(need=LIVE)[1], closure.chain(need=LIVE)[0][1]], ["root", "root"])
        self.assertEqual(closure.widened(book=BOOK).needs(), [LIVE])
        self.assertEqual(needs_of(book=BOOK, roots=["main"], reach=40), needs)
        step = closure.reason(LIVE)
        self.assertTrue(is_step(book=BOOK, roots=["main"], value=step, reach=40))
        self.assertTrue(is_chain(book=BOOK, roots=["main"], value=[step], reach=40))

    def test_judging_and_larger_books(self):
        more = {"book": BOOK, "roots": ["main"], "needs": IMAGE.needs(), "reach": 40}
        self.assertEqual([missing_step(**more), is_closed(**more), judge(**more)], [None, True, ("least", None)])
        self.assertTrue(is_larger(big=general_book(book=BOOK, reach=40), book=BOOK))
        self.assertEqual(outlook(book=BOOK, roots=["main"], need=LIVE, reach=40), "surely")
        self.assertEqual(witness(book=BOOK, roots=["main"], need=LIVE, reach=40)[0], BOOK)

    def test_layouts_and_images(self):
        layout = Layout(book=BOOK, needs=IMAGE.needs(), page=16)
        self.assertEqual([layout.piece_offset(key=MAIN), layout.row_offset(place=(*MAIN, 0))], [4, 4])
        self.assertEqual([layout.stub_offset(name="far"), layout.slot_offset(name="far")], [0, layout.data_offset])
        self.assertEqual([layout.place_at(offset=4), layout.stub_at(offset=3)], [(*MAIN, 0), "far"])
        self.assertEqual(link(book=BOOK, roots=["main"], reach=40, page=16), IMAGE)
        self.assertEqual(image_of(book=BOOK, roots=["main"], needs=IMAGE.needs(), reach=40, page=16), IMAGE)
        self.assertEqual(len(list(listing(image=IMAGE, base=16))), len(IMAGE.cells(base=16)))


class ListsTest(unittest.TestCase):
    def test_tuples_in_the_place_of_lists(self):
        needs = tuple(IMAGE.needs())
        self.assertEqual(link(BOOK, ("main",)), IMAGE)
        self.assertEqual(image_of(BOOK, ("main",), needs), IMAGE)
        self.assertEqual(judge(BOOK, ("main",), needs), ("least", None))
        self.assertEqual(Layout(BOOK, needs).size, IMAGE.size)
        self.assertEqual(wide_book(tuple(BOOK.units())), BOOK)
        self.assertEqual(Loaded(IMAGE, bases=(16,)).bases(), [16])
        self.assertEqual(Linker(BOOK, ("main",)).needs(), list(needs))
        run = Run(Loaded(IMAGE, bases=[16]), "main")
        self.assertEqual(run.rewrite(MAIN, (("halt",),)), 1)

    def test_lists_in_the_place_of_tuples(self):
        self.assertFalse(is_need(BOOK, list(LIVE)))
        self.assertEqual(raised(self, InvalidNeed, check_needs, BOOK, [LIVE, list(LIVE)]).at, 1)
        self.assertEqual(raised(self, UnknownPiece, BOOK.piece, list(MAIN)).key, list(MAIN))
        raised(self, UnknownPlace, BOOK.target, [*MAIN, 0])
        self.assertFalse(is_step(BOOK, ["main"], [LIVE, "root", (), None]))
        self.assertFalse(is_step(BOOK, ["main"], (LIVE, "root", [], None)))
        self.assertFalse(is_address([0, MAIN, 0]) or is_address((0, list(MAIN), 0)))
        raised(self, InvalidDeed, Desk().do, ["reach", 5])
        self.assertEqual(raised(self, InvalidRow, Piece, "a", "code", [["halt"]]).at, 0)

    def test_arguments_are_not_changed(self):
        roots, needs, rows, bases, names = ["main"], IMAGE.needs(), [("out", "r0"), ("halt",)], [64, 16], ["a", "b"]
        cells = [1, 2, 3]
        given = [roots, needs, rows, bases, names, cells]
        before = copy.deepcopy(given)
        image = image_of(BOOK, roots, needs)
        judge(BOOK, roots, needs)
        Linker(BOOK, roots).put(Object("x"))
        library = general_library(names)
        loaded = Loaded(image, library, bases=bases)
        run = Run(loaded, "main")
        run.rewrite(MAIN, rows)
        run.run()
        machine = Machine(loaded, "main")
        machine.write(16, cells)
        machine.write(17, [9])
        desk = Desk()
        desk.do(("put", BOOK.units()[0]), ("roots", roots))
        self.assertEqual(given, before)

    def test_lists_within_returned_lists_are_new(self):
        pair = BOOK.drawable()
        pair.clear()
        self.assertEqual(BOOK.drawable(), [("l", "m")])
        told = Desk()
        told.say("units")
        told.log().clear()
        self.assertEqual(told.log(), [("units", "none")])


class NumbersTest(unittest.TestCase):
    """True and False are not numbers, also not within tuples."""

    def test_arguments(self):
        loaded = Loaded(IMAGE, bases=[16])
        for value in (True, False):
            for number in (is_word(value), is_number(value, 0, 1), is_code_row(("put", "r0", value)), is_data_row(("word", value))):
                self.assertIs(number, False)
            raised(self, InvalidReach, needs_of, BOOK, ["main"], reach=value)
            raised(self, InvalidPage, link, BOOK, ["main"], page=value)
            raised(self, InvalidNumber, BOOK.with_unit, Object("x"), value)
            raised(self, InvalidNumber, cell_of, "low", value)
            raised(self, InvalidNumber, parted, value)
            raised(self, InvalidNumber, whole, value, 0)
            raised(self, InvalidNumber, stretch, BOOK, IMAGE.needs(), (*MAIN, 2), value)
            raised(self, UnknownPlace, BOOK.target, (*MAIN, value))
            raised(self, InvalidBase, IMAGE.cells, value)
            raised(self, InvalidBase, Loaded, IMAGE, bases=[value])
            raised(self, InvalidImage, Loaded, value, bases=[16])
            self.assertIsNone(loaded.where(value))
            self.assertIsNone(IMAGE.layout.place_at(value))
            self.assertIsNone(IMAGE.layout.stub_at(value))
            for kind in (Plain, Machine, Run):
                raised(self, UnknownImage, kind, loaded, "main", image=value)
                raised(self, InvalidNumber, kind(loaded, "main").run, value)
            raised(self, InvalidNumber, Run(loaded, "main").run_to, None, value)
            raised(self, UnknownImage, Plain(loaded, "main").content, MAIN, image=value)
            self.assertIsNone(Machine(loaded, "main").cell_at(value))

    def test_within_tuples(self):
        self.assertFalse(is_need(BOOK, ("long", *MAIN, False)))
        self.assertTrue(is_need(BOOK, ("long", *MAIN, 0)))
        step = (("stub", "far"), "stub", (LIVE,), 0)
        self.assertTrue(is_step(BOOK, ["main"], step))
        self.assertFalse(is_step(BOOK, ["main"], (*step[:3], False)))
        self.assertFalse(is_address((False, MAIN, 0)))
        raised(self, UnknownPlace, IMAGE.layout.row_offset, (*MAIN, False))
        run = Run(Loaded(IMAGE, bases=[16]), "main")
        self.assertEqual([run.entry_of((0, *MAIN, 0, 0)), run.entry_of((0, *MAIN, 0, False))], [20, None])


class StateTest(unittest.TestCase):
    def test_what_never_changes(self):
        """Machines, runs, linkers and desks leave what they are given as it is."""
        loaded = Loaded(IMAGE, bases=[16])
        before = [loaded.cells(), loaded.slots(), loaded.entries(), IMAGE.cells(16), BOOK.text(), loaded.images(), loaded.bases()]
        run = Run(loaded, "main")
        run.rewrite(("o", "", "low"), [("name", "r0", "d"), ("store", "r0", "r0", 0), ("halt",)])
        run.opened(general_library(["a"]), 512, ahead=True)
        run.run()
        plain = Plain(loaded, "main", early=True)
        plain.opened(general_library(["far"]), ahead=True)
        plain.run()
        linker = Linker(BOOK, ["main"])
        linker.take_off("l")
        after = [loaded.cells(), loaded.slots(), loaded.entries(), IMAGE.cells(16), BOOK.text(), loaded.images(), loaded.bases()]
        self.assertEqual(after, before)

    def test_two_of_one_kind_share_nothing(self):
        loaded = Loaded(IMAGE, bases=[16])
        for kind in (Plain, Machine, Run):
            one, other = kind(loaded, "main"), kind(loaded, "main")
            one.run()
            self.assertEqual([one.ended, other.ended, other.outputs()], ["halt", "", []])
        one, other = Desk(), Desk()
        one.do(("reach", 7))
        one.say("units")
        self.assertEqual([other.reach, other.history(), other.log()], [40, (0, 0), []])

    def test_what_has_no_equality_of_its_own_is_equal_only_to_itself(self):
        loaded = Loaded(IMAGE, bases=[16])
        for made in (lambda: Loaded(IMAGE, bases=[16]), lambda: Run(loaded, "main"), lambda: Linker(BOOK, ["main"])):
            one = made()
            self.assertTrue(one == one)
            self.assertFalse(one == made())


if __name__ == "__main__":
    unittest.main()

"""Loaded sets: points [24] and [29], leastimage/loading.py."""

import random
import unittest

from leastimage.errors import InvalidBase, InvalidImage, Overlap
from leastimage.images import link
from leastimage.libraries import general_library
from leastimage.loading import Loaded

import model_runs
import models
from common import all_odd_values, book_of, raised

PROGRAM = link(
    book_of(
        "object o; outside lib; outside gone; code main 1 export; call lib; name r0 d; callby r0; call gone; halt;",
        "code own 1 open; jump own; code lone 1 local keep; back; data d 2 local; address lib; address main; end",
    ),
    ["main", "own"],
)
LIBRARY = link(book_of("object l; code lib 4 export; put r1 300; back; code own 1 weak keep; back; end"), ["lib"])
ARCHIVE = link(book_of("archive a; object m; outside lib; code x 1 export; call lib; back; end; end"), ["x"], page=64)
SMALL = general_library(["lib"])


class LoadedTest(unittest.TestCase):
    def test_one_image(self):
        loaded = Loaded(PROGRAM, bases=[32])
        self.assertEqual([loaded.images(), loaded.bases(), len(loaded)], [[PROGRAM], [32], 1])
        self.assertEqual(repr(loaded), "Loaded(1 images)")
        self.assertTrue(loaded)
        self.assertEqual(list(loaded.cells()), list(range(32, 32 + PROGRAM.size)))
        self.assertEqual(list(loaded.cells().values()), PROGRAM.cells(32))

    def test_side_by_side(self):
        end = 16 + PROGRAM.size
        base = (end + 15) // 16 * 16
        loaded = Loaded(PROGRAM, LIBRARY, bases=[16, base])
        self.assertEqual(list(loaded.cells()), [*range(16, end), *range(base, base + LIBRARY.size)])
        self.assertEqual(raised(self, Overlap, Loaded, PROGRAM, LIBRARY, bases=[16, base - 16]).at, 1)
        loaded = Loaded(SMALL, SMALL, bases=[32, 16])
        self.assertEqual(list(loaded.cells()), list(range(16, 48)))
        self.assertEqual(list(Loaded(SMALL, SMALL, bases=(16, 32)).cells()), list(range(16, 48)))

    def test_one_cell_too_near(self):
        book = book_of("object o; code main 1 export; halt; data d 1 export keep; word 5; end")
        image = link(book, ["main"])
        self.assertEqual(image.size, 17)
        self.assertEqual(raised(self, Overlap, Loaded, image, SMALL, bases=[16, 32]).at, 1)
        self.assertEqual(raised(self, Overlap, Loaded, SMALL, image, bases=[32, 16]).at, 1)
        self.assertEqual(len(Loaded(image, SMALL, bases=[16, 48])), 2)
        self.assertEqual(len(Loaded(SMALL, image, bases=[16, 32])), 2)
        raised(self, Overlap, Loaded, SMALL, image, bases=[32, 32])

    def test_exporter(self):
        loaded = Loaded(PROGRAM, LIBRARY, SMALL, bases=[256, 16, 512])
        told = [loaded.exporter(name) for name in ("main", "own", "lib", "lone", "d", "x", "gone")]
        self.assertEqual(told, [0, 0, 1, None, None, None, None])
        self.assertEqual(Loaded(SMALL, LIBRARY, bases=[16, 64]).exporter(name="lib"), 0)
        for value in [*all_odd_values(), 0, ("main",)]:
            self.assertIsNone(loaded.exporter(value))

    def test_where(self):
        loaded = Loaded(PROGRAM, LIBRARY, bases=[256, 16])
        self.assertEqual([loaded.where(address) for address in (15, 16, 31)], [None, (1, 0), (1, 15)])
        self.assertEqual(loaded.where(16 + LIBRARY.size), None)
        self.assertEqual([loaded.where(255), loaded.where(256)], [None, (0, 0)])
        last = 256 + PROGRAM.size - 1
        self.assertEqual([loaded.where(last), loaded.where(address=last + 1)], [(0, PROGRAM.size - 1), None])
        for value in [*all_odd_values(), "16", 65536, 10**9, (16,)]:
            self.assertIsNone(loaded.where(value))
        top = Loaded(SMALL, bases=[65520])
        self.assertEqual([top.where(65535), top.where(65536), top.where(0)], [(0, 15), None, None])

    def test_cells_and_their_slots(self):
        loaded = Loaded(PROGRAM, LIBRARY, bases=[512, 16])
        for at, image in enumerate(loaded.images()):
            base = loaded.bases()[at]
            told = [loaded.cells()[base + offset] for offset in range(image.size)]
            self.assertEqual(told, image.cells(base))
        for name in PROGRAM.stubs():
            self.assertEqual(loaded.cells()[512 + PROGRAM.layout.slot_offset(name)], 0)

    def test_slots(self):
        loaded = Loaded(PROGRAM, ARCHIVE, LIBRARY, SMALL, bases=[512, 64, 16, 1024])
        lib = 16 + LIBRARY.exports()["lib"]
        own = 512 + PROGRAM.exports()["own"]
        told = {(0, "gone"): 0, (0, "lib"): lib, (0, "own"): own, (1, "lib"): lib}
        self.assertEqual(list(loaded.slots().items()), list(told.items()))
        turned = Loaded(SMALL, PROGRAM, LIBRARY, bases=[1024, 512, 16])
        self.assertEqual(turned.slots()[1, "lib"], 1024)
        self.assertEqual(Loaded(LIBRARY, bases=[16]).slots(), {})

    def test_an_answer_of_the_own_image_and_of_another_one(self):
        # own is open, so that an image ahead can turn the jump to it.
        self.assertEqual(Loaded(LIBRARY, PROGRAM, bases=[16, 512]).slots()[1, "own"], 16 + LIBRARY.exports()["own"])
        self.assertEqual(Loaded(PROGRAM, LIBRARY, bases=[512, 16]).slots()[0, "own"], 512 + PROGRAM.exports()["own"])

    def test_entries(self):
        loaded = Loaded(ARCHIVE, LIBRARY, bases=[64, 16])
        lib, own = 16 + LIBRARY.exports()["lib"], 16 + LIBRARY.exports()["own"]
        x = 64 + ARCHIVE.exports()["x"]
        told = {
            lib: (1, "l", "", "lib", 0),
            lib + 2: (1, "l", "", "lib", 1),
            own: (1, "l", "", "own", 0),
            x: (0, "a", "m", "x", 0),
            x + 1: (0, "a", "m", "x", 1),
        }
        self.assertEqual(list(loaded.entries().items()), list(told.items()))
        self.assertEqual(ARCHIVE.layout.stub_offset("lib"), 0)

    def test_random_sets(self):
        for seed in range(60):
            chance = random.Random(seed)
            images = [model_runs.random_image(chance) for _ in range(chance.randint(1, 5))]
            taken = []
            bases = [model_runs.random_base(chance, image, taken) for image in images]
            loaded = Loaded(*images, bases=bases)
            told = {}
            for at, image in enumerate(images):
                live = [need[1:] for need in image.needs() if need[0] == "live"]
                for key, _, piece in models.all_pieces(image.book):
                    if key in live and piece.part == "code":
                        for row in range(len(piece)):
                            told[bases[at] + image.layout.row_offset((*key, row))] = (at, *key, row)
            self.assertEqual(list(loaded.entries().items()), sorted(told.items()))
            addresses = [base + k for base, image in zip(bases, images) for k in range(image.size)]
            self.assertEqual(list(loaded.cells()), sorted(addresses))
            self.assertEqual(list(loaded.slots()), sorted(loaded.slots()))
            for (at, name), address in loaded.slots().items():
                self.assertIn(name, images[at].stubs())
                exporters = [k for k in range(len(images)) if name in images[k].exports()]
                self.assertEqual(loaded.exporter(name), exporters[0] if exporters else None)
                self.assertEqual(address, bases[exporters[0]] + images[exporters[0]].exports()[name] if exporters else 0)

    def test_with_image(self):
        loaded = Loaded(PROGRAM, bases=[512])
        more = loaded.with_image(LIBRARY, 16)
        self.assertEqual([more.images(), more.bases()], [[PROGRAM, LIBRARY], [512, 16]])
        self.assertEqual([loaded.images(), loaded.bases()], [[PROGRAM], [512]])
        self.assertEqual(loaded.with_image(image=LIBRARY, base=16).cells(), more.cells())

    def test_lists_and_dicts_are_copied_and_new(self):
        bases = [512, 16]
        loaded = Loaded(PROGRAM, LIBRARY, bases=bases)
        bases[0] = 16
        calls = (loaded.images, loaded.bases, loaded.cells, loaded.slots, loaded.entries)
        before = [told() for told in calls]
        for told in calls:
            told().clear()
        self.assertEqual([told() for told in calls], before)
        self.assertEqual(loaded.bases(), [512, 16])


class RefusedTest(unittest.TestCase):
    def test_no_image(self):
        self.assertEqual(raised(self, InvalidImage, Loaded, bases=[]).at, 0)
        self.assertEqual(raised(self, InvalidImage, Loaded, bases=None).at, 0)

    def test_values_that_are_no_images(self):
        for value in [*all_odd_values(), PROGRAM.book, 3]:
            self.assertEqual(raised(self, InvalidImage, Loaded, value, bases=[16]).at, 0)
            self.assertEqual(raised(self, InvalidImage, Loaded, SMALL, value, None, bases=7).at, 1)

    def test_a_sixth_one(self):
        bases = [16 * at for at in range(1, 7)]
        self.assertEqual(len(Loaded(*[SMALL] * 5, bases=bases[:5])), 5)
        self.assertEqual(raised(self, InvalidImage, Loaded, *[SMALL] * 6, bases=bases).at, 5)
        self.assertEqual(raised(self, InvalidImage, Loaded, *[SMALL] * 5, None, bases=bases).at, 5)
        self.assertEqual(raised(self, InvalidImage, Loaded, *[SMALL] * 4, None, SMALL, SMALL, bases=bases).at, 4)
        self.assertEqual(raised(self, InvalidImage, Loaded, *[SMALL] * 9, bases=()).at, 5)

    def test_a_wrong_list_of_bases(self):
        for bases in [*all_odd_values(), 16, "16", {16: 1}, [], [16], [16, 32, 48]]:
            if not isinstance(bases, (list, tuple)) or len(bases) != 2:
                self.assertEqual(raised(self, InvalidBase, Loaded, SMALL, SMALL, bases=bases).at, -1)

    def test_wrong_bases(self):
        for base in [*all_odd_values(), 0, -16, 8, 17, 65536, 65537, 10**9, "16", (16,)]:
            self.assertEqual(raised(self, InvalidBase, Loaded, SMALL, bases=[base]).at, 0)
            self.assertEqual(raised(self, InvalidBase, Loaded, SMALL, SMALL, SMALL, bases=[16, base, 16]).at, 1)

    def test_bases_of_another_page(self):
        self.assertEqual(raised(self, InvalidBase, Loaded, SMALL, ARCHIVE, bases=[16, 96]).at, 1)
        self.assertEqual(raised(self, InvalidBase, Loaded, ARCHIVE, bases=[32]).at, 0)
        self.assertEqual(Loaded(SMALL, ARCHIVE, bases=[48, 128]).bases(), [48, 128])

    def test_the_end(self):
        book = book_of("object o; code main 1 export; halt; data d 1 export keep; room 17; end")
        image = link(book, ["main"])
        self.assertEqual(image.size, 33)
        self.assertEqual(raised(self, InvalidBase, Loaded, image, bases=[65536 - 32]).at, 0)
        self.assertEqual(len(Loaded(image, bases=[65536 - 48])), 1)
        self.assertEqual(len(Loaded(SMALL, bases=[65520])), 1)

    def test_the_first_overlap(self):
        self.assertEqual(raised(self, Overlap, Loaded, SMALL, SMALL, SMALL, SMALL, bases=[16, 64, 16, 64]).at, 2)
        self.assertEqual(raised(self, Overlap, Loaded, SMALL, SMALL, SMALL, bases=[16, 64, 64]).at, 2)

    def test_several_at_once(self):
        self.assertEqual(raised(self, InvalidImage, Loaded, SMALL, None, bases=[]).at, 1)
        self.assertEqual(raised(self, InvalidBase, Loaded, SMALL, SMALL, bases=[1]).at, -1)
        self.assertEqual(raised(self, InvalidBase, Loaded, SMALL, SMALL, SMALL, bases=[16, 16, 1]).at, 2)

    def test_with_image(self):
        loaded = Loaded(SMALL, SMALL, bases=[16, 48])
        for value in [*all_odd_values(), 5]:
            self.assertEqual(raised(self, InvalidImage, loaded.with_image, value, 1).at, 2)
        for base in [*all_odd_values(), 0, 1, 65536]:
            self.assertEqual(raised(self, InvalidBase, loaded.with_image, SMALL, base).at, 2)
        self.assertEqual(raised(self, Overlap, loaded.with_image, SMALL, 48).at, 2)
        full = Loaded(*[SMALL] * 5, bases=[16, 32, 48, 64, 80])
        self.assertEqual(raised(self, InvalidImage, full.with_image, SMALL, 96).at, 5)


if __name__ == "__main__":
    unittest.main()

"""Many small runs, compared with the literal reading in model_runs.py."""

import random
import unittest

from leastimage.errors import Full, Overlap, TooSmall, Unlinked, Within
from leastimage.libraries import general_library
from leastimage.loading import Loaded
from leastimage.machine import Machine
from leastimage.plain import Plain
from leastimage.runs import Run

import model_runs

NAMES = "abcdefgh"


class Trial:
    """A random run beside the models of both of its machines."""

    def __init__(self, case, seed):
        self.case, self.seed = case, seed
        self.chance = random.Random(seed)
        images = [model_runs.random_image(self.chance) for _ in range(self.chance.randint(1, 3))]
        taken = []
        bases = [model_runs.random_base(self.chance, image, taken) for image in images]
        loaded = Loaded(*images, bases=bases)
        at = self.chance.randrange(len(images))
        name = self.chance.choice(list(images[at].exports()))
        early = self.chance.random() < 0.5
        self.run = Run(loaded, name, image=at, early=early)
        self.plain = model_runs.PlainModel(images, name, at, early)
        self.counts = {}

    def count(self, word):
        self.counts[word] = self.counts.get(word, 0) + 1

    def whole(self):
        """Does up to 100 rows, with libraries and editions between."""
        self.compare()
        for _ in range(100):
            if self.run.ended:
                break
            chance = self.chance.random()
            if chance < 0.04 and len(self.run.loaded) < 5:
                self.open_library()
            elif chance < 0.14:
                self.rewrite()
            elif chance < 0.17:
                self.take_back()
            elif chance < 0.19:
                self.run = self.run.twin()
            else:
                self.run.step()
                self.plain.step()
            self.compare()
        self.count(self.run.ended)

    def open_library(self):
        image = model_runs.random_image(self.chance)
        if self.chance.random() < 0.4:
            names = self.chance.sample(NAMES, self.chance.randint(1, 8))
            image = general_library(names, page=self.chance.choice([16, 32, 64]))
        ahead = self.chance.random() < 0.5
        try:
            base = image.page * self.chance.randint(1, (65536 - image.size) // image.page)
            index = self.run.opened(image, base, ahead=ahead)
        except Overlap:
            return
        self.case.assertEqual(index, len(self.plain.images))
        self.plain.open_library(image, ahead)
        self.count("opened")

    def rewrite(self):
        at = self.chance.randrange(len(self.run.loaded))
        image = self.run.loaded.images()[at]
        key = self.chance.choice(model_runs.code_keys(image))
        rows = model_runs.random_rows(self.chance, "code", image.book.known(), 4)
        try:
            number = self.run.rewrite(key, rows, image=at)
        except (Unlinked, TooSmall, Within, Full) as error:
            self.count(error.code)
            return
        self.plain.rewrite(at, key, rows)
        self.case.assertEqual(number, self.plain.newest[at, key][-1])
        self.count("rewritten")

    def take_back(self):
        found = [piece for piece, numbers in self.plain.newest.items() if len(numbers) > 1]
        if found:
            at, key = self.chance.choice(found)
            self.run.take_back(key, image=at)
            self.plain.take_back(at, key)
            self.count("taken back")

    def compare(self):
        case, run, model = self.case, self.run, self.plain
        case.assertEqual(run.ended, model.ended, self.seed)
        case.assertEqual(run.place(), model.place, self.seed)
        case.assertEqual(run.frames(), model.frames, self.seed)
        case.assertEqual(run.registers(), model.registers, self.seed)
        case.assertEqual(run.outputs(), model.outputs, self.seed)
        case.assertTrue(run.agrees(), self.seed)
        plain = run.plain()
        case.assertEqual(plain.order(), model.order, self.seed)
        case.assertEqual(plain.bound(), model.bound, self.seed)
        case.assertEqual(list(plain.bound()), sorted(model.bound), self.seed)
        for (at, key), cells in model.content.items():
            case.assertEqual(plain.content(key, image=at), cells, self.seed)
        for (at, key), numbers in model.newest.items():
            case.assertEqual(run.editions(key, image=at), numbers, self.seed)
        if not run.ended:
            self.compare_cells()

    def compare_cells(self):
        """What agreeing means, with words that are reckoned here."""
        case, run = self.case, self.run
        machine = run.machine()
        case.assertEqual(machine.ended, "", self.seed)
        case.assertEqual(run.cell_place(), run.place(), self.seed)
        case.assertEqual(run.cell_frames(), run.frames(), self.seed)
        case.assertEqual(run.entry_of(run.place()), machine.place(), self.seed)
        case.assertEqual(machine.registers()[:3], [self.word(value) for value in run.registers()], self.seed)
        bases = run.loaded.bases()
        for (at, key), cells in self.plain.content.items():
            first = bases[at] + run.loaded.images()[at].layout.piece_offset(key)
            told = [machine.cell_at(first + k) for k in range(len(cells))]
            case.assertEqual(told, [self.word(value) for value in cells], self.seed)

    def word(self, value):
        if not isinstance(value, tuple):
            return value
        at, owner, distance = value
        layout = self.run.loaded.images()[at].layout
        offset = layout.stub_offset(owner[2]) if owner[0] == "" else layout.piece_offset(owner)
        return (self.run.loaded.bases()[at] + offset + distance) % 65536


class RunModelTest(unittest.TestCase):
    def test_runs(self):
        counts = {}
        for seed in range(900):
            trial = Trial(self, seed)
            trial.whole()
            for word, many in trial.counts.items():
                counts[word] = counts.get(word, 0) + many
        ends = ["", "halt", "done", "room", "seen", "outside", "deep", "unbound"]
        for word in [*ends, "opened", "rewritten", "taken back", "TooSmall", "Within", "Unlinked"]:
            self.assertGreater(counts.get(word, 0), 5, (word, counts))

    def test_plain_alone(self):
        for seed in range(300):
            chance = random.Random(50000 + seed)
            images = [model_runs.random_image(chance) for _ in range(chance.randint(1, 4))]
            taken = []
            loaded = Loaded(*images, bases=[model_runs.random_base(chance, image, taken) for image in images])
            at = chance.randrange(len(images))
            name = chance.choice(list(images[at].exports()))
            early = chance.random() < 0.5
            plain = Plain(loaded, name, image=at, early=early)
            model = model_runs.PlainModel(images, name, at, early)
            done = plain.run(40)
            for _ in range(done):
                self.assertEqual(model.ended, "", seed)
                model.step()
            self.assertTrue(done == 40 or model.ended, seed)
            told = [plain.ended, plain.place(), plain.frames(), plain.registers(), plain.outputs(), plain.bound()]
            self.assertEqual(
                told, [model.ended, model.place, model.frames, model.registers, model.outputs, model.bound], seed
            )


class CellModelTest(unittest.TestCase):
    def compare(self, machine, model, seed):
        told = [machine.ended, machine.place(), machine.frames(), machine.registers(), machine.outputs()]
        self.assertEqual(told, [model.ended, model.place, model.frames, model.registers, model.outputs], seed)

    def test_cells_of_images(self):
        for seed in range(300):
            chance = random.Random(60000 + seed)
            images = [model_runs.random_image(chance) for _ in range(chance.randint(1, 3))]
            taken = []
            bases = [model_runs.random_base(chance, image, taken) for image in images]
            at = chance.randrange(len(images))
            name = chance.choice(list(images[at].exports()))
            early = chance.random() < 0.5
            machine = Machine(Loaded(*images, bases=bases), name, image=at, early=early)
            model = model_runs.CellModel(images, bases, name, at, early)
            for _ in range(60):
                self.compare(machine, model, seed)
                if machine.ended:
                    break
                if chance.random() < 0.03 and len(images) < 5:
                    self.open_library(chance, machine, model, images, taken)
                machine.step()
                model.step()
            for address in model.cells:
                self.assertEqual(machine.cell_at(address), model.cells[address], seed)

    def open_library(self, chance, machine, model, images, taken):
        image = model_runs.random_image(chance)
        base = model_runs.random_base(chance, image, taken)
        ahead = chance.random() < 0.5
        self.assertEqual(machine.opened(image, base, ahead=ahead), len(images))
        images.append(image)
        model.open_library(image, base, ahead)

    def test_any_cells(self):
        ends = {}
        for seed in range(1500):
            chance = random.Random(70000 + seed)
            image = model_runs.random_image(chance)
            base = chance.choice([image.page, 65536 - (image.size + 63) // 64 * 64])
            name = chance.choice(list(image.exports()))
            early = chance.random() < 0.5
            machine = Machine(Loaded(image, bases=[base]), name, early=early)
            model = model_runs.CellModel([image], [base], name, 0, early)
            for _ in range(chance.randint(0, 3)):
                self.write(chance, machine, model, base, image.size)
            for _ in range(chance.randint(1, 80)):
                if machine.ended:
                    break
                machine.step()
                model.step()
                self.compare(machine, model, seed)
            ends[machine.ended] = ends.get(machine.ended, 0) + 1
            for address in model.cells:
                self.assertEqual(machine.cell_at(address), model.cells[address], seed)
        for word in ("", "halt", "done", "room", "outside", "deep", "unbound"):
            self.assertGreater(ends.get(word, 0), 3, ends)

    def write(self, chance, machine, model, base, size):
        many = chance.randint(1, size)
        address = base + chance.randint(0, size - many)
        codes = chance.choice([range(16), [2, 3, 4, 5, 6, 7, 8, 9, 10, 11, 12, 13, 15], [10, 13, 11, 3]])
        near = chance.choice([256, 8])
        cells = []
        for _ in range(many):
            part = chance.randrange(near) if chance.random() < 0.5 else 255 - chance.randrange(near)
            cells.append(chance.choice(codes) * 4096 + chance.randrange(16) * 256 + part)
        machine.write(address, cells)
        model.cells.update(zip(range(address, address + many), cells))


if __name__ == "__main__":
    unittest.main()

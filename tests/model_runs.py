"""A slow and literal reading of points [30] to [36], and images to try it with."""

from leastimage.books import wide_book
from leastimage.closure import needs_of
from leastimage.errors import NotCode, Unanswered, UnknownRoot
from leastimage.images import image_of, link
from leastimage.objects import Archive, Object
from leastimage.pieces import Piece
from leastimage.rules import given_steps

import models

REGISTERS = ("r0", "r1", "r2")
WORDS = 65536


def is_address(value):
    return isinstance(value, tuple)


class PlainModel:
    """The plain machine, read as points [30] to [32] and [36] tell it."""

    def __init__(self, images, name, image, early):
        self.images, self.names, self.order, self.early = [], [], [], early
        self.bound, self.editions, self.newest, self.content = {}, {}, {}, {}
        for one in images:
            self.put_image(one, len(self.order))
        self.bind_early(range(len(images)))
        self.registers = [0, 0, 0]
        self.frames, self.outputs, self.ended = [], [], ""
        self.place = (image, *models.answer(images[image].book, name)[0], 0, 0)

    def put_image(self, image, where):
        at = len(self.images)
        self.images.append(image)
        self.order.insert(where, at)
        live = [need[1:] for need in image.needs() if need[0] == "live"]
        exported = {}
        for key, owner, piece in models.all_pieces(image.book):
            if key not in live:
                continue
            if piece.part == "code":
                self.editions[at, key] = [piece.rows()]
                self.newest[at, key] = [0]
                if (models.answer(image.book, piece.name) or [None])[0] == key:
                    exported[piece.name] = key
            else:
                cells = []
                for row in piece.rows():
                    if row[0] == "room":
                        cells += [0] * row[1]
                    else:
                        cells.append(row[1] if row[0] == "word" else self.address(at, key, row[1]))
                self.content[at, key] = cells
        self.names.append(exported)

    def bind_early(self, indexes):
        if self.early:
            for at in indexes:
                for need in self.images[at].needs():
                    if need[0] == "stub":
                        self.bind(at, need[1])

    def bind(self, at, name):
        if (at, name) not in self.bound:
            exporters = [index for index in self.order if name in self.names[index]]
            if exporters:
                self.bound[at, name] = (exporters[0], self.names[exporters[0]][name])

    def open_library(self, image, ahead):
        self.put_image(image, 0 if ahead else len(self.order))
        self.bind_early([len(self.images) - 1])

    def target(self, at, key, name):
        owner = [owner for other, owner, _ in models.all_pieces(self.images[at].book) if other == key][0]
        return models.target(self.images[at].book, key, owner, name)

    def address(self, at, key, name):
        target = self.target(at, key, name)
        return (at, ("", "", target[1]) if target[0] == "stub" else target[1:], 0)

    def in_place(self, value):
        cells = self.content.get(value[:2])
        return value[2] == 0 if cells is None else value[2] < len(cells)

    def first(self, at, key):
        return (at, *key, self.newest[at, key][-1], 0)

    def rewrite(self, at, key, rows):
        self.newest[at, key].append(len(self.editions[at, key]))
        self.editions[at, key].append(list(rows))
        self.settle(at, key)

    def take_back(self, at, key):
        self.newest[at, key].pop()
        self.settle(at, key)

    def settle(self, at, key):
        if self.place[:4] == (at, *key) and self.place[5] == 0:
            self.place = self.first(at, key)

    def step(self):
        at, key, number, row = self.place[0], self.place[1:4], self.place[4], self.place[5]
        word, *items = self.editions[at, key][number][row]
        values = [self.registers[REGISTERS.index(item)] if item in REGISTERS else item for item in items]
        here = self.place
        self.place = (*here[:5], row + 1)
        self.do(word, items, values, at, key)
        if self.ended:
            self.place = here

    def set_first(self, items, value):
        if value is None:
            self.ended = "seen"
        else:
            self.registers[REGISTERS.index(items[0])] = value

    def do(self, word, items, values, at, key):
        if word in ("halt", "room"):
            self.ended = word
        elif word == "put":
            self.set_first(items, values[1])
        elif word == "name":
            self.set_first(items, self.address(at, key, items[1]))
        elif word == "add":
            self.set_first(items, self.added(values[0], values[1]))
        elif word == "take":
            self.set_first(items, self.taken(values[0], values[1]))
        elif word in ("load", "store"):
            self.reach_data(word, items, values)
        elif word == "jump":
            self.go(at, self.target(at, key, items[0]))
        elif word == "ifzero":
            if is_address(values[0]) and not self.in_place(values[0]):
                self.ended = "seen"
            elif values[0] == 0:
                self.go(at, self.target(at, key, items[1]))
        elif word == "call":
            self.call(at, self.target(at, key, items[0]))
        elif word == "callby":
            value = values[0]
            if not is_address(value) or not self.in_place(value) or value[:2] in self.content:
                self.ended = "outside"
            else:
                owner = value[1]
                self.call(value[0], ("stub", owner[2]) if owner[:2] == ("", "") else ("piece", *owner))
        elif word == "back":
            if self.frames:
                self.place = self.frames.pop()
            else:
                self.ended = "done"
        elif is_address(values[0]):
            self.ended = "seen"
        else:
            self.outputs.append(values[0])

    def added(self, one, other):
        if is_address(one) and is_address(other):
            return None
        if is_address(other):
            one, other = other, one
        if is_address(one):
            return (one[0], one[1], (one[2] + other) % WORDS)
        return (one + other) % WORDS

    def taken(self, one, other):
        if not is_address(one) and not is_address(other):
            return (one - other) % WORDS
        if is_address(one) and not is_address(other):
            return (one[0], one[1], (one[2] - other) % WORDS)
        if is_address(one) and is_address(other) and one[0] == other[0] and one[1] == other[1]:
            return (one[2] - other[2]) % WORDS
        return None

    def reach_data(self, word, items, values):
        value = values[1]
        if is_address(value):
            value = (value[0], value[1], (value[2] + values[2]) % WORDS)
        if not is_address(value) or value[:2] not in self.content or not self.in_place(value):
            self.ended = "outside"
        elif word == "load":
            self.set_first(items, self.content[value[:2]][value[2]])
        else:
            self.content[value[:2]][value[2]] = values[0]

    def call(self, at, target):
        if len(self.frames) == 30:
            self.ended = "deep"
        else:
            self.frames.append(self.place)
            self.go(at, target)

    def go(self, at, target):
        if target[0] == "piece":
            self.place = self.first(at, target[1:])
            return
        self.bind(at, target[1])
        if (at, target[1]) in self.bound:
            index, key = self.bound[at, target[1]]
            self.place = self.first(index, key)
        else:
            self.ended = "unbound"


class CellModel:
    """The cell machine, read as points [8] and [33] tell it."""

    def __init__(self, images, bases, name, image, early):
        self.cells, self.stubs, self.slots = {}, {}, {}
        self.exports, self.order, self.early, self.bound = [], [], early, {}
        for one, base in zip(images, bases):
            self.put_image(one, base, len(self.order))
        self.bind_early(range(len(images)))
        self.registers = [0, 0, 0, 0]
        self.frames, self.outputs, self.ended = [], [], ""
        self.place = bases[image] + images[image].exports()[name]

    def put_image(self, image, base, where):
        at = len(self.exports)
        self.order.insert(where, at)
        for offset, cell in enumerate(image.cells(base)):
            self.cells[base + offset] = cell
        self.exports.append({name: base + offset for name, offset in image.exports().items()})
        for name in image.stubs():
            self.stubs[base + image.layout.stub_offset(name) + 3] = (at, name)
            self.slots[at, name] = base + image.layout.slot_offset(name)

    def bind_early(self, indexes):
        if self.early:
            for at, name in list(self.slots):
                if at in indexes:
                    self.bind(at, name)

    def bind(self, at, name):
        if (at, name) not in self.bound:
            answers = [self.exports[index][name] for index in self.order if name in self.exports[index]]
            if not answers:
                return
            self.bound[at, name] = answers[0]
        self.cells[self.slots[at, name]] = self.bound[at, name]

    def open_library(self, image, base, ahead):
        self.put_image(image, base, 0 if ahead else len(self.order))
        self.bind_early([len(self.exports) - 1])

    def step(self):
        if self.place not in self.cells:
            self.ended = "outside"
            return
        cell = self.cells[self.place]
        code, r, s, part = cell >> 12, cell >> 10 & 3, cell >> 8 & 3, cell & 255
        near = (self.place + (part if part < 128 else part - 256)) % WORDS
        here = self.place
        self.place = (here + 1) % WORDS
        self.do(code, r, s, part, near, here)
        if self.ended:
            self.place = here

    def do(self, code, r, s, part, near, here):
        regs = self.registers
        if code in (0, 1):
            self.ended = ["room", "halt"][code]
        elif code == 2:
            regs[r] = part * 256
        elif code == 3:
            regs[r] = (regs[r] + (part if part < 128 else part - 256)) % WORDS
        elif code == 4:
            regs[r] = (regs[r] + regs[s]) % WORDS
        elif code == 5:
            regs[r] = (regs[r] - regs[s]) % WORDS
        elif code in (6, 7):
            address = (regs[s] + part) % WORDS
            if address not in self.cells:
                self.ended = "outside"
            elif code == 6:
                regs[r] = self.cells[address]
            else:
                self.cells[address] = regs[r]
        elif code == 8 or (code == 9 and regs[r] == 0):
            self.place = near
        elif code == 11:
            regs[r] = near
        elif code == 12:
            self.leave(r, here)
        elif code in (10, 13):
            if len(self.frames) == 30:
                self.ended = "deep"
            else:
                self.frames.append(self.place)
                self.place = near if code == 10 else regs[r]
        elif code == 14 and self.frames:
            self.place = self.frames.pop()
        elif code == 14:
            self.ended = "done"
        elif code == 15:
            self.outputs.append(regs[r])

    def leave(self, r, here):
        self.place = self.registers[r]
        if here in self.stubs and r == 3 and self.registers[3] == 0:
            stub = self.stubs[here]
            self.bind(*stub)
            if stub in self.bound:
                self.place = self.bound[stub]
            else:
                self.ended = "unbound"


def random_row(random, part, names):
    """A row of a piece that runs somewhere in most cases."""
    name, one, other = random.choice(names), random.choice(REGISTERS), random.choice(REGISTERS)
    if part == "data":
        return random.choice(
            [("word", random.choice([0, 1, 65535])), ("address", name), ("address", name), ("room", random.randint(1, 4))]
        )
    rows = [
        ("put", one, random.choice([0, 0, 1, 2, 65535, 1000])),
        *[("name", one, name)] * 3,
        ("add", one, other),
        ("take", one, other),
        *[("load", one, other, random.choice([0, 0, 0, 1, 2]))] * 2,
        *[("store", one, other, random.choice([0, 0, 0, 1, 2]))] * 2,
        *[("ifzero", one, name)] * 2,
        *[("call", name)] * 3,
        ("callby", one),
        *[("out", one)] * 2,
    ]
    return random.choice(rows) if random.random() < 0.98 else ("room", random.randint(1, 3))


def random_rows(random, part, names, most=6):
    rows = [random_row(random, part, names) for _ in range(random.randint(0, most))]
    if part == "code":
        jump = ("jump", random.choice(names))
        rows.append(random.choice([("back",), ("back",), ("halt",), jump, jump]))
    return rows


def random_object(random, title, names, taken):
    own = random.sample(names, random.randint(1, min(5, len(names))))
    pieces = []
    for name in own:
        part = "code" if random.random() < 0.75 else "data"
        scopes = ["local", "weak"] if name in taken else ["local", "weak", "export", "export", "open"]
        scope = random.choice([scope for scope in scopes if part == "code" or scope != "open"])
        more = {"alignment": random.choice([1, 1, 1, 2, 4, 16]), "scope": scope, "keep": random.random() < 0.1}
        pieces.append(Piece(name, part, random_rows(random, part, names), **more))
    others = [name for name in names if name not in own]
    return Object(title, *pieces, outside=random.sample(others, random.randint(0, min(3, len(others)))))


def random_book(random):
    names = list("abcdefgh")[: random.randint(2, 8)]
    units, taken = [], []
    for title in random.sample("klmn", random.randint(1, 3)):
        if random.random() < 0.25:
            members = random.sample("pq", random.randint(1, 2))
            units.append(Archive(title, *[random_object(random, member, names, []) for member in members]))
        else:
            units.append(random_object(random, title, names, taken))
            taken += [piece.name for piece in units[-1].pieces() if piece.is_strong()]
    return wide_book(units)


def random_closed(random, book, roots, reach):
    """The needs of a book with some more, closed."""
    more = [need for need in models.all_needs(book) if need[0] in ("stub", "long")]
    needs = needs_of(book, roots, reach=reach) + random.sample(more, random.randint(0, len(more)))
    given = given_steps(book, roots, reach, needs)
    while given:
        needs += list(given)
        given = given_steps(book, roots, reach, needs)
    return needs


def random_image(random):
    """An image of a random book, with more needs than the book has in some cases."""
    while True:
        book = random_book(random)
        pieces = {key: piece for key, _, piece in models.all_pieces(book)}
        answers = [name for name in book.known() if models.answer(book, name)]
        roots = [name for name in answers if pieces[models.answer(book, name)[0]].part == "code"]
        if not roots:
            continue
        roots = random.sample(roots, random.randint(1, min(4, len(roots))))
        more = {"reach": random.choice([4, 5, 8, 15, 40, 100]), "page": random.choice([16, 32, 64])}
        try:
            if random.random() < 0.2:
                return image_of(book, roots, random_closed(random, book, roots, more["reach"]), **more)
            return link(book, roots, **more)
        except (UnknownRoot, Unanswered, NotCode):
            continue


def random_base(random, image, taken):
    """A base for an image, which is far away in half of the cases."""
    while True:
        most = (WORDS - image.size) // image.page if random.random() < 0.5 else 60
        base = image.page * random.randint(1, most)
        if all(base + image.size <= other or other + size <= base for other, size in taken):
            taken.append((base, image.size))
            return base


def code_keys(image):
    """The keys of the live code pieces of an image."""
    live = [need[1:] for need in image.needs() if need[0] == "live"]
    return [key for key, _, piece in models.all_pieces(image.book) if key in live and piece.part == "code"]


def data_keys(image):
    """The keys of the live data pieces of an image."""
    live = [need[1:] for need in image.needs() if need[0] == "live"]
    return [key for key, _, piece in models.all_pieces(image.book) if key in live and piece.part == "data"]

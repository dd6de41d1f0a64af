"""What the plain machine reads and changes."""

from leastimage.binding import Binding
from leastimage.contents import is_strings
from leastimage.needs import live_pieces
from leastimage.rewriting import Edition, Editions
from leastimage.values import address_in, in_place, is_address, target_of
from leastimage.words import REGISTERS


class PlainState:
    """Registers, contents, frames, the place, the outputs and the word of the end.

    The place and the frames are spots: tuples of the index of an image, the
    three names of a key, the number of an edition and the index of a row.
    The spot ahead is the one at which the present row goes on.
    """

    def __init__(self, images, early):
        self.held_images = []
        self.binding = Binding(images, early)
        self.versions = {}
        self.memory = {}
        for image in images:
            self._load(image)
        self.held = {name: 0 for name in REGISTERS}
        self.stack = []
        self.spot = ()
        self.ahead = ()
        self.printed = []
        self.end = ""

    def take(self, image, ahead):
        """Takes one more image, behind all others or ahead of them."""
        self._load(image)
        self.binding.take(image, ahead)

    def begin(self, at, key):
        """Stands at the first row of a code piece."""
        self.spot = self.first_row(at, key)

    def first_row(self, at, key):
        """The spot of the first row of the newest edition of a code piece."""
        return (at, *key, self.versions[at, key].newest(), 0)

    def has_code(self, at, value):
        """Whether any value is the key of a live code piece of an image."""
        return is_strings(value, 3) and (at, value) in self.versions

    def has_data(self, at, value):
        """Whether any value is the key of a live data piece of an image."""
        return is_strings(value, 3) and (at, value) in self.memory

    def go_to(self, at, target):
        """Goes on at a target of an image; the word of the end if this ends the run."""
        if target[0] == "piece":
            self.ahead = self.first_row(at, target[1:])
            return ""
        piece = self.binding.piece_of(at, target[1])
        if piece is None:
            return "unbound"
        self.ahead = self.first_row(*piece)
        return ""

    def is_in_place(self, value):
        """Whether an address value leads to a cell, a code piece or a stub."""
        cells = self.memory.get(value[:2])
        return in_place(value, 1 if cells is None else len(cells))

    def data_at(self, value):
        """The cells of the data piece that a value is in place of, None without it."""
        if is_address(value) and self.is_in_place(value):
            return self.memory.get(value[:2])
        return None

    def code_at(self, value):
        """The target in code that a value is in place of, None without it."""
        if is_address(value) and self.is_in_place(value) and value[:2] not in self.memory:
            return target_of(value)
        return None

    def twin(self):
        """An independent state that is the same."""
        other = PlainState([], self.binding.early)
        other.held_images = list(self.held_images)
        other.binding = self.binding.twin()
        other.versions = {key: self.versions[key].twin() for key in self.versions}
        other.memory = {key: list(self.memory[key]) for key in self.memory}
        other.held = dict(self.held)
        other.stack = list(self.stack)
        other.spot = self.spot
        other.ahead = self.ahead
        other.printed = list(self.printed)
        other.end = self.end
        return other

    def _load(self, image):
        """Makes the rows and the cells of the live pieces of an image."""
        at = len(self.held_images)
        self.held_images.append(image)
        for key in live_pieces(image.book, image.needs()):
            piece = image.book.piece(key)
            if piece.part == "code":
                self.versions[at, key] = Editions(Edition(image.book, key, piece.rows()))
            else:
                self.memory[at, key] = _first_contents(at, image.book, key)


def _first_contents(at, book, key):
    """The contents of the cells of a data piece at the beginning."""
    contents = []
    for index, row in enumerate(book.piece(key).rows()):
        if row[0] == "word":
            contents.append(row[1])
        elif row[0] == "address":
            contents.append(address_in(at, book.target((*key, index))))
        else:
            contents.extend([0] * row[1])
    return contents

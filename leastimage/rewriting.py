"""The editions of code pieces, and when a piece can be rewritten."""

from leastimage.errors import TooSmall, Unlinked
from leastimage.forms import row_size
from leastimage.images import GOING
from leastimage.needs import is_long
from leastimage.rows import name_in
from leastimage.words import is_index

# The cells that lead from a rewritten piece to its newest edition.
COVER = 3


class Edition:
    """The rows of a code piece, with the targets of its references. It never changes."""

    def __init__(self, book, key, rows):
        names = [name_in(row) for row in rows]
        self.row_list = list(rows)
        self.target_list = [
            None if name is None else book.target_from(key, name) for name in names
        ]


class Editions:
    """All editions that a code piece has had, by their numbers."""

    def __init__(self, first):
        self._all = [first]
        self._standing = [0]

    def newest(self):
        """The number of the newest edition that was not taken back."""
        return self._standing[-1]

    def numbers(self):
        """The numbers of the editions that were not taken back."""
        return list(self._standing)

    def edition(self, number):
        """The edition with a number, also if it was taken back."""
        return self._all[number]

    def has_row(self, number, row):
        """Whether there was ever an edition with a number that has so many rows and more."""
        if not is_index(number, len(self._all)):
            return False
        return is_index(row, len(self._all[number].row_list))

    def add_edition(self, edition):
        """Makes an edition the newest one."""
        self._standing.append(len(self._all))
        self._all.append(edition)

    def drop_newest(self):
        """Takes the newest edition back."""
        self._standing.pop()

    def twin(self):
        """Independent editions in the same state."""
        other = Editions(self._all[0])
        other._all = list(self._all)
        other._standing = list(self._standing)
        return other


def check_edition(image, edition):
    """Refuses rows with a target that the image does not have, or cannot go to."""
    held = {need: True for need in image.needs()}
    for at, row in enumerate(edition.row_list):
        target = edition.target_list[at]
        if target is not None and not _is_linked(image, held, row, target):
            raise Unlinked(name_in(row), at)


def check_room(image, key):
    """Refuses a piece that has no room for the cells that lead away from it."""
    needs = image.needs()
    rows = image.book.piece(key).rows()
    sizes = [row_size(row, is_long(needs, (*key, at))) for at, row in enumerate(rows)]
    if sum(sizes) < COVER:
        raise TooSmall(key)


def is_covered(image, place):
    """Whether the row at a place has its first cell in the second or third of its piece."""
    layout = image.layout
    offset = layout.row_offset(place) - layout.piece_offset(place[:3])
    return 0 < offset < COVER


def _is_linked(image, held, row, target):
    """Whether a dict with the needs of an image has the target of a row."""
    if target[0] == "stub":
        return target in held
    if target[0] == "none" or ("live", *target[1:]) not in held:
        return False
    return row[0] not in GOING or image.book.piece(target[1:]).part == "code"

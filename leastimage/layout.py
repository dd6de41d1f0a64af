"""The offsets of images."""

from leastimage.blocks import aligned, code_blocks, piece_blocks
from leastimage.contents import is_place, is_strings
from leastimage.errors import InvalidPage, UnknownPiece, UnknownPlace, UnknownStub
from leastimage.needs import check_needs, stub_names
from leastimage.words import is_number

PAGES = (16, 32, 64)


class Tract:
    """Some blocks that are laid one behind the other, from a start on.

    It tells where the blocks begin by their needs, where their spots begin,
    and the spot of each cell. It ends behind its last cell.
    """

    def __init__(self, blocks, start):
        self.begins = {}
        self.spot_begins = {}
        self.spot_at = {}
        self.end = start
        at = start
        for block in blocks:
            at = aligned(at, block.alignment)
            self.begins[block.need] = at
            for spot, size in zip(block.spots, block.sizes):
                self.spot_begins[spot] = at
                self.spot_at.update({cell: spot for cell in range(at, at + size)})
                at = at + size
                self.end = at


class Layout:
    """The offsets of an image with a set of needs. It never changes."""

    def __init__(self, book, needs, *, page=16):
        check_needs(book, needs)
        check_page(page)
        self._page = page
        self._code = Tract(code_blocks(book, needs), 0)
        self._slots_begin = aligned(self._code.end, page)
        names = stub_names(needs)
        self._slots = {name: self._slots_begin + at for at, name in enumerate(names)}
        self._data = Tract(piece_blocks(book, needs, "data"), self._slots_begin + len(names))
        self._begins = {**self._code.begins, **self._data.begins}
        self._spot_begins = {**self._code.spot_begins, **self._data.spot_begins}

    @property
    def page(self):
        """The page."""
        return self._page

    @property
    def code_length(self):
        """The offset behind the last cell of the code."""
        return self._code.end

    @property
    def data_offset(self):
        """The offset of the first slot, or from which on the data stand."""
        return self._slots_begin

    @property
    def size(self):
        """The offset behind the last slot or cell of a data row."""
        return self._data.end

    def piece_offset(self, key):
        """The offset at which a live piece begins."""
        if not is_strings(key, 3) or ("live", *key) not in self._begins:
            raise UnknownPiece(key)
        return self._begins["live", key[0], key[1], key[2]]

    def row_offset(self, place):
        """The offset of the first cell of a row of a live piece."""
        if not is_place(place) or place not in self._spot_begins:
            raise UnknownPlace(place)
        return self._spot_begins[place]

    def stub_offset(self, name):
        """The offset of the first cell of a stub."""
        if not self._has_stub(name):
            raise UnknownStub(name)
        return self._begins["stub", name]

    def slot_offset(self, name):
        """The offset of the slot of a stub."""
        if not self._has_stub(name):
            raise UnknownStub(name)
        return self._slots[name]

    def place_at(self, offset):
        """The place of the row with the cell at an offset, None without one."""
        spot = self._spot_with(offset)
        return spot if is_place(spot) else None

    def stub_at(self, offset):
        """The name of the stub with the cell at an offset, None without one."""
        spot = self._spot_with(offset)
        return None if spot is None or is_place(spot) else spot[1]

    def _has_stub(self, value):
        return isinstance(value, str) and value in self._slots

    def _spot_with(self, offset):
        """The spot with the cell at an offset, None for any value that is none."""
        if not is_number(offset, 0, self.size):
            return None
        return self._code.spot_at.get(offset, self._data.spot_at.get(offset))


def is_page(value):
    """Whether any value is one of the three pages."""
    return is_number(value, 16, 64) and value in PAGES


def check_page(page):
    """Refuses what is no page."""
    if not is_page(page):
        raise InvalidPage(page)

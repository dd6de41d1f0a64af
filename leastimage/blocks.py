"""The stubs and the live pieces of a set of needs, as they follow one another."""

from leastimage.forms import STUB, row_size
from leastimage.needs import live_pieces, stub_names


class Block:
    """A stub or a live piece: the need of it, and its spots with their sizes.

    The spots are the points of its cells: that of the stub, or the places of
    the rows of the piece.
    """

    def __init__(self, need, alignment, spots, sizes):
        self.need = need
        self.alignment = alignment
        self.spots = spots
        self.sizes = sizes
        self.length = sum(sizes)


def aligned(at, alignment):
    """The least multiple of an alignment that is not below a number."""
    return (at + alignment - 1) // alignment * alignment


def code_blocks(book, needs):
    """The stubs and the live code pieces, in the order of the code."""
    stubs = [("stub", name) for name in stub_names(needs)]
    blocks = [Block(stub, 1, [stub], [STUB]) for stub in stubs]
    return blocks + piece_blocks(book, needs, "code")


def piece_blocks(book, needs, part):
    """The live pieces of a part, by ranks."""
    held = {need: True for need in needs}
    live = live_pieces(book, needs)
    return [_piece_block(book, held, key) for key in live if book.piece(key).part == part]


def _piece_block(book, held, key):
    piece = book.piece(key)
    spots = [(*key, at) for at in range(len(piece))]
    rows = list(zip(spots, piece.rows()))
    sizes = [row_size(row, ("long", *spot) in held) for spot, row in rows]
    return Block(("live", *key), piece.alignment, spots, sizes)

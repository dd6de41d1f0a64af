"""The added rooms of a run, in which the cells of editions stand."""

from leastimage.forms import row_cells, row_size

# A jump in its long form; its name means nothing, as its target is told.
LEADING = ("jump", "a")


class Rooms:
    """Where the rows of editions stand, and the cells that lead to them.

    Editions are told by the tuples (image, key, number).
    """

    def __init__(self):
        self._row_addresses = {}
        self._spots = {}
        self._covered = {}

    def put_room(self, edition, sizes, address):
        """Remembers the added room of an edition, whose rows have these sizes."""
        at, key, number = edition
        addresses = []
        for row, size in enumerate(sizes):
            addresses.append(address)
            # The first row of an edition is entered at the piece itself.
            if row > 0:
                self._spots[address] = (at, *key, number, row)
            address = address + size
        self._row_addresses[edition] = addresses

    def row_address(self, edition, row):
        """The address of the first cell of a row of an edition."""
        return self._row_addresses[edition][row]

    def place_entered_at(self, address):
        """The place of the row behind a first one whose first cell has an address."""
        return self._spots.get(address)

    def cover(self, piece, cells):
        """Remembers the first cells of a piece that are replaced now."""
        self._covered[piece] = [*self._covered.get(piece, []), cells]

    def uncover(self, piece):
        """The first cells of a piece as they were when they were replaced last."""
        return self._covered[piece].pop()

    def twin(self):
        """Independent rooms in the same state."""
        other = Rooms()
        other._row_addresses = {told: self._row_addresses[told] for told in self._row_addresses}
        other._spots = {address: self._spots[address] for address in self._spots}
        other._covered = {piece: list(self._covered[piece]) for piece in self._covered}
        return other


def leading_cells(address):
    """The cells that lead from a rewritten piece to an address."""
    return row_cells(LEADING, 0, address, True)


def long_sizes(rows):
    """The numbers of the cells of rows in their long forms."""
    return [row_size(row, True) for row in rows]


def long_cells(rows, addresses):
    """The cells of rows in their long forms, with the addresses of their targets."""
    cells = []
    for row, address in zip(rows, addresses):
        cells.extend(row_cells(row, 0, address, True))
    return cells

"""What the cell machine reads and changes."""

from leastimage.binding import Binding

REGISTER_NUMBERS = 4
# Behind which cells of a stub the one stands that leaves it.
LEAVING = 3


class CellState:
    """Cells, registers, frames, the place, the outputs and the word of the end.

    The place and the frames are addresses. The address ahead is the one at
    which the present cell goes on.
    """

    def __init__(self, loaded, early, spot):
        self.loaded_set = loaded
        self.binding = Binding(loaded.images(), early)
        self.memory = loaded.cells()
        self.leaving = {}
        self.room_sizes = {}
        for at in range(len(loaded)):
            self._prepare(at)
        self.held = [0] * REGISTER_NUMBERS
        self.stack = []
        self.spot = spot
        self.ahead = spot
        self.printed = []
        self.end = ""

    def take(self, loaded, ahead):
        """Takes the last image of a larger loaded set, behind all others or ahead of them."""
        at = len(self.loaded_set)
        image = loaded.images()[at]
        self.loaded_set = loaded
        self.binding.take(image, ahead)
        base = loaded.bases()[at]
        for offset, cell in enumerate(image.cells(base)):
            self.memory[base + offset] = cell
        self._prepare(at)

    def stub_left_at(self, address):
        """The index of the image and the name of the stub that is left at an address."""
        return self.leaving.get(address)

    def bind(self, at, name):
        """Binds a stub; the address of its piece, None without an answer."""
        piece = self.binding.piece_of(at, name)
        if piece is None:
            return None
        address = self.loaded_set.address_of(piece[0], ("piece", *piece[1]))
        self.memory[self.loaded_set.slot_address(at, name)] = address
        return address

    def ends(self):
        """The ascending list of the addresses behind the images and added rooms."""
        bases = self.loaded_set.bases()
        ends = [base + image.size for base, image in zip(bases, self.loaded_set.images())]
        ends.extend([address + self.room_sizes[address] for address in self.room_sizes])
        return sorted(ends)

    def twin(self):
        """An independent state that is the same."""
        other = CellState(self.loaded_set, self.binding.early, self.spot)
        other.binding = self.binding.twin()
        other.memory = {address: self.memory[address] for address in self.memory}
        other.room_sizes = {address: self.room_sizes[address] for address in self.room_sizes}
        other.held = list(self.held)
        other.stack = list(self.stack)
        other.ahead = self.ahead
        other.printed = list(self.printed)
        other.end = self.end
        return other

    def _prepare(self, at):
        """Finds the stubs of an image, and fills the slots of those that are bound."""
        image = self.loaded_set.images()[at]
        for name in image.stubs():
            address = self.loaded_set.address_of(at, ("stub", name))
            self.leaving[address + LEAVING] = (at, name)
            if self.binding.early:
                self.bind(at, name)

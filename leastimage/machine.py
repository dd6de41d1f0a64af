"""The cell machine, which runs the cells of loaded images."""

from leastimage.binding import begin_key
from leastimage.blocks import aligned
from leastimage.celldeeds import do_cell
from leastimage.cellstate import CellState
from leastimage.ends import check_most, check_running, told_end
from leastimage.errors import Full, InvalidNumber, Overlap
from leastimage.images import MOST_ADDRESSES
from leastimage.loading import are_near
from leastimage.words import is_word

MOST_RUN_CELLS = 9999
ROOM_ALIGNMENT = 16


class Machine:
    """A run of cells, which knows nothing of rows."""

    def __init__(self, loaded, name, *, image=0, early=False):
        key = begin_key(loaded, name, image)
        self._begin = (loaded, name, image, early)
        self._state = CellState(loaded, early, loaded.address_of(image, ("piece", *key)))

    @property
    def ended(self):
        """The word of the end, the empty string until then."""
        return self._state.end

    def place(self):
        """The address of the present cell."""
        return self._state.spot

    def frames(self):
        """The list of the addresses of the frames, the oldest first."""
        return list(self._state.stack)

    def registers(self):
        """The list of the words of the four registers."""
        return list(self._state.held)

    def outputs(self):
        """The list of the outputs."""
        return list(self._state.printed)

    def cell_at(self, address):
        """The cell at an address, None for any value that is no address of one."""
        if not is_word(address):
            return None
        return self._state.memory.get(address)

    def step(self):
        """Does one cell."""
        check_running(self.ended)
        do_cell(self._state)

    def run(self, most=1000):
        """Does up to so many cells; returns the number of its steps."""
        check_most(most, 0, MOST_RUN_CELLS)
        many = 0
        while many < most and self.ended == "":
            self.step()
            many = many + 1
        return many

    def opened(self, image, base, *, ahead=False):
        """Opens a library at a base, behind all images or ahead of them; returns its index."""
        check_running(self.ended)
        loaded = self._state.loaded_set.with_image(image, base)
        at = len(loaded) - 1
        sizes = self._state.room_sizes
        for address in sizes:
            if are_near(base, image.size, address, sizes[address]):
                raise Overlap(at)
        self._state.take(loaded, ahead)
        return at

    def add_room(self, many):
        """Puts an added room of so many cells; returns its address."""
        check_running(self.ended)
        address = aligned(max(self.ends()), ROOM_ALIGNMENT)
        if address + many > MOST_ADDRESSES:
            raise Full()
        self._state.room_sizes[address] = many
        self._state.memory.update({address + at: 0 for at in range(many)})
        return address

    def write(self, address, cells):
        """Puts cells from an address on, where cells are."""
        check_running(self.ended)
        memory = self._state.memory
        if not is_word(address):
            raise InvalidNumber(address)
        if not all([address + at in memory for at in range(len(cells))]):
            raise InvalidNumber(address)
        memory.update({address + at: cell for at, cell in enumerate(cells)})

    def ends(self):
        """The ascending list of the addresses behind all images and added rooms."""
        return self._state.ends()

    def loaded_now(self):
        """The loaded set, with the libraries that were opened."""
        return self._state.loaded_set

    def twin(self):
        """An independent machine in the same state."""
        loaded, name, image, early = self._begin
        other = Machine(loaded, name, image=image, early=early)
        other._state = self._state.twin()
        return other

    def __repr__(self):
        return f"Machine({told_end(self.ended)})"

"""Runs, which lead both machines side by side."""

from leastimage.ends import MOST_RUN_ROWS, check_most, check_running, told_end
from leastimage.halves import wrapped
from leastimage.machine import Machine
from leastimage.needs import live_pieces
from leastimage.plain import Plain
from leastimage.rewriting import COVER, is_covered
from leastimage.rooms import Rooms, leading_cells, long_cells, long_sizes
from leastimage.values import is_address, target_of
from leastimage.words import is_word

# Ends of the plain machine behind which the cells are led no further.
UNTOLD = ("seen", "outside")


class Run:
    """The plain machine and the cell machine, which does the cells of each row."""

    def __init__(self, loaded, name, *, image=0, early=False):
        self._begin = (loaded, name, image, early)
        self._rows = Plain(loaded, name, image=image, early=early)
        self._cells = Machine(loaded, name, image=image, early=early)
        self._rooms = Rooms()
        self._entries = loaded.entries()

    @property
    def ended(self):
        """The word of the end of the plain machine."""
        return self._rows.ended

    @property
    def loaded(self):
        """The loaded set, with the libraries that were opened."""
        return self._cells.loaded_now()

    def plain(self):
        """A twin of the plain machine."""
        return self._rows.twin()

    def machine(self):
        """A twin of the cell machine."""
        return self._cells.twin()

    def place(self):
        """The place of the plain machine."""
        return self._rows.place()

    def frames(self):
        """The list of the frames of the plain machine."""
        return self._rows.frames()

    def registers(self):
        """The list of the values of the plain machine."""
        return self._rows.registers()

    def outputs(self):
        """The list of the outputs of the plain machine."""
        return self._rows.outputs()

    def cell_place(self):
        """The place of the row at whose entry the cell machine stands, None elsewhere."""
        return self.place_at(self._cells.place())

    def cell_frames(self):
        """The places of the rows at whose entries the frames of the cells stand."""
        return [self.place_at(address) for address in self._cells.frames()]

    def word_of(self, value):
        """The word of a value."""
        if not is_address(value):
            return value
        return wrapped(self.loaded.address_of(value[0], target_of(value)) + value[2])

    def entry_of(self, place):
        """The entry of a place, None for any value that has none now."""
        if not self._rows.has_place(place):
            return None
        at, key, number, row = place[0], place[1:4], place[4], place[5]
        newest = self._rows.newest_edition(key, at)
        if row == 0:
            return self.loaded.address_of(at, ("piece", *key)) if number == newest else None
        if number > 0:
            return self._rooms.row_address((at, key, number), row)
        image = self.loaded.images()[at]
        if newest > 0 and is_covered(image, (*key, row)):
            return None
        return self.loaded.bases()[at] + image.layout.row_offset((*key, row))

    def place_at(self, address):
        """The place of the row with an entry, None for any other value."""
        if not is_word(address):
            return None
        spot = self._rooms.place_entered_at(address)
        if spot is not None or address not in self._entries:
            return spot
        at, unit, member, piece, row = self._entries[address]
        number = self._rows.newest_edition((unit, member, piece), at) if row == 0 else 0
        spot = (at, unit, member, piece, number, row)
        return None if self.entry_of(spot) is None else spot

    def step(self):
        """Does one row, and leads the cells on."""
        self._rows.step()
        if self.ended not in UNTOLD:
            self._lead_on()

    def run(self, most=200):
        """Does up to so many rows; returns how many it did."""
        check_most(most, 0, MOST_RUN_ROWS)
        many = 0
        while many < most and self.ended == "":
            self.step()
            many = many + 1
        return many

    def run_to(self, place, most=200):
        """Does one row or more, up to a place; whether the run stands there then."""
        check_running(self.ended)
        check_most(most, 1, MOST_RUN_ROWS)
        for _ in range(most):
            self.step()
            if self.ended != "":
                return False
            if self._rows.has_place(place) and self.place() == place:
                return True
        return False

    def opened(self, image, base, *, ahead=False):
        """Opens a library at a base; returns its index."""
        check_running(self.ended)
        at = self._cells.opened(image, base, ahead=ahead)
        self._rows.opened(image, ahead=ahead)
        self._entries = self.loaded.entries()
        return at

    def rewrite(self, key, rows, *, image=0):
        """Gives a live code piece other rows; returns the number of the edition."""
        # Only a twin is changed until it is known that there is room for the cells.
        changed = self._rows.twin()
        number = changed.rewrite(key, rows, image=image)
        sizes = long_sizes(rows)
        room = self._cells.add_room(sum(sizes))
        self._rows = changed
        self._rooms.put_room((image, key, number), sizes, room)
        addresses = self._target_addresses(changed.newest_targets(key, image), image)
        self._cells.write(room, long_cells(rows, addresses))
        first = self.loaded.address_of(image, ("piece", *key))
        covered = [self._cells.cell_at(first + at) for at in range(COVER)]
        self._rooms.cover((image, key), covered)
        self._cells.write(first, leading_cells(room))
        return number

    def take_back(self, key, *, image=0):
        """Takes the newest edition of a live code piece back."""
        self._rows.take_back(key, image=image)
        first = self.loaded.address_of(image, ("piece", *key))
        self._cells.write(first, self._rooms.uncover((image, key)))

    def editions(self, key, *, image=0):
        """The list of the numbers of the editions that were not taken back."""
        return self._rows.editions(key, image=image)

    def agrees(self):
        """Whether the machines agree."""
        if self._rows.outputs() != self._cells.outputs():
            return False
        if self.ended in UNTOLD:
            return True
        if self.ended != "" or self._cells.ended != "":
            return self.ended == self._cells.ended
        return self._stand_alike() and self._hold_alike()

    def twin(self):
        """An independent run in the same state."""
        loaded, name, image, early = self._begin
        other = Run(loaded, name, image=image, early=early)
        other._rows = self._rows.twin()
        other._cells = self._cells.twin()
        other._rooms = self._rooms.twin()
        other._entries = {address: self._entries[address] for address in self._entries}
        return other

    def __repr__(self):
        return f"Run({told_end(self.ended)})"

    def _lead_on(self):
        """Lets the cell machine do cells until it ends or stands at an entry."""
        self._cells.step()
        while self._cells.ended == "" and self.cell_place() is None:
            self._cells.step()

    def _target_addresses(self, targets, at):
        """The addresses of the targets of rows of an image, 0 for rows without one."""
        return [0 if target is None else self.loaded.address_of(at, target) for target in targets]

    def _stand_alike(self):
        """Whether the places and the frames of both machines are the same."""
        entries = [self.entry_of(place) for place in self.frames()]
        at_entry = self._cells.place() == self.entry_of(self.place())
        return at_entry and self._cells.frames() == entries

    def _hold_alike(self):
        """Whether the registers and the data of both machines are the same."""
        words = [self.word_of(value) for value in self.registers()]
        if self._cells.registers()[:3] != words:
            return False
        return all([self._holds_data_alike(at) for at in range(len(self.loaded))])

    def _holds_data_alike(self, at):
        """Whether the data cells of an image hold the words of its contents."""
        image = self.loaded.images()[at]
        for key in live_pieces(image.book, image.needs()):
            if image.book.piece(key).part == "data":
                words = [self.word_of(value) for value in self._rows.content(key, image=at)]
                first = self.loaded.address_of(at, ("piece", *key))
                if [self._cells.cell_at(first + k) for k in range(len(words))] != words:
                    return False
        return True

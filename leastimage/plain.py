"""The plain machine, which runs the rows of loaded images."""

from leastimage.binding import begin_key, check_image
from leastimage.ends import MOST_RUN_ROWS, check_most, check_running, told_end
from leastimage.errors import NotReplaced, UnknownPiece, Within
from leastimage.pieces import Piece
from leastimage.plainstate import PlainState
from leastimage.rewriting import Edition, check_edition, check_room, is_covered
from leastimage.rowdeeds import do_row
from leastimage.words import is_index


class Plain:
    """A run of rows, which knows nothing of cells and bases."""

    def __init__(self, loaded, name, *, image=0, early=False):
        key = begin_key(loaded, name, image)
        self._begin = (loaded, name, image, early)
        self._state = PlainState(loaded.images(), early)
        self._state.begin(image, key)

    @property
    def ended(self):
        """The word of the end, the empty string until then."""
        return self._state.end

    def place(self):
        """The place, as (image, unit, member, piece, edition, row)."""
        return self._state.spot

    def frames(self):
        """The list of the frames, the oldest first, as places."""
        return list(self._state.stack)

    def registers(self):
        """The list of the values of r0, r1 and r2."""
        return list(self._state.held.values())

    def outputs(self):
        """The list of the outputs."""
        return list(self._state.printed)

    def content(self, key, *, image=0):
        """The list of the contents of the cells of a live data piece."""
        check_image(image, len(self._state.held_images))
        if not self._state.has_data(image, key):
            raise UnknownPiece(key)
        return list(self._state.memory[image, key])

    def order(self):
        """The list of the indexes of the images, in the order of the run."""
        return list(self._state.binding.sequence)

    def bound(self):
        """The pieces to which stubs are bound, by the indexes of images and the names."""
        return self._state.binding.chosen()

    def step(self):
        """Does one row."""
        check_running(self.ended)
        do_row(self._state)

    def run(self, most=200):
        """Does up to so many rows; returns how many it did."""
        check_most(most, 0, MOST_RUN_ROWS)
        many = 0
        while many < most and self.ended == "":
            self.step()
            many = many + 1
        return many

    def opened(self, image, *, ahead=False):
        """Opens a library, behind all images or ahead of them; returns its index."""
        check_running(self.ended)
        self._state.take(image, ahead)
        return len(self._state.held_images) - 1

    def rewrite(self, key, rows, *, image=0):
        """Gives a live code piece other rows; returns the number of the edition."""
        check_running(self.ended)
        editions = self._editions_of(key, image)
        held = self._state.held_images[image]
        edition = Edition(held.book, key, Piece(key[2], "code", rows).rows())
        check_edition(held, edition)
        check_room(held, key)
        self._check_spots(held, (image, *key))
        editions.add_edition(edition)
        self._begin_again(image, key)
        return editions.newest()

    def take_back(self, key, *, image=0):
        """Takes the newest edition of a live code piece back."""
        check_running(self.ended)
        editions = self._editions_of(key, image)
        if editions.newest() == 0:
            raise NotReplaced(key)
        editions.drop_newest()
        self._begin_again(image, key)

    def editions(self, key, *, image=0):
        """The list of the numbers of the editions that were not taken back."""
        return self._editions_of(key, image).numbers()

    def newest_edition(self, key, image):
        """The number of the newest edition of a live code piece."""
        return self._editions_of(key, image).newest()

    def newest_targets(self, key, image):
        """The targets of the rows of the newest edition, None for rows without one."""
        editions = self._editions_of(key, image)
        return list(editions.edition(editions.newest()).target_list)

    def has_place(self, value):
        """Whether any value is the place of a row of some edition, also one taken back."""
        if not isinstance(value, tuple) or len(value) != 6:
            return False
        if not is_index(value[0], len(self._state.held_images)):
            return False
        key = value[1:4]
        if not self._state.has_code(value[0], key):
            return False
        return self._state.versions[value[0], key].has_row(value[4], value[5])

    def twin(self):
        """An independent machine in the same state."""
        loaded, name, image, early = self._begin
        other = Plain(loaded, name, image=image, early=early)
        other._state = self._state.twin()
        return other

    def __repr__(self):
        return f"Plain({told_end(self.ended)})"

    def _editions_of(self, key, image):
        """The editions of a live code piece of the image with an index."""
        check_image(image, len(self._state.held_images))
        if not self._state.has_code(image, key):
            raise UnknownPiece(key)
        return self._state.versions[image, key]

    def _check_spots(self, held, piece):
        """Refuses a run that stands within the first three cells of a piece."""
        for spot in [*self._state.stack, self._state.spot]:
            if spot[:4] == piece and spot[4] == 0 and is_covered(held, (*spot[1:4], spot[5])):
                raise Within(spot)

    def _begin_again(self, image, key):
        """Stands at the newest first row, if the run is at a first row of the piece."""
        spot = self._state.spot
        if spot[:4] == (image, *key) and spot[5] == 0:
            self._state.begin(image, key)

"""Images that are loaded side by side."""

from leastimage.errors import InvalidBase, InvalidImage, Overlap
from leastimage.halves import wrapped
from leastimage.images import Image
from leastimage.needs import live_pieces
from leastimage.words import is_number

MOST_IMAGES = 5


class Loaded:
    """Images with their bases, in an order. It never changes."""

    def __init__(self, *images, bases):
        _check_images(images)
        _check_bases(images, bases)
        self._images = list(images)
        self._bases = list(bases)

    def images(self):
        """The list of the images."""
        return list(self._images)

    def bases(self):
        """The list of the bases."""
        return list(self._bases)

    def exporter(self, name):
        """The index of the first image that exports a name, None without one."""
        if not isinstance(name, str):
            return None
        for at, image in enumerate(self._images):
            if name in image.exports():
                return at
        return None

    def where(self, address):
        """The index of the image and the offset of the cell at an address."""
        for at, image in enumerate(self._images):
            offset = offset_in(image, self._bases[at], address)
            if offset is not None:
                return at, offset
        return None

    def cells(self):
        """The cells by their addresses, with slots that hold 0."""
        found = {}
        for at in self._ascending():
            base = self._bases[at]
            for offset, cell in enumerate(self._images[at].cells(base)):
                found[base + offset] = cell
        return found

    def slots(self):
        """The addresses of the answers of all stubs, 0 for stubs without one."""
        found = {}
        for at, image in enumerate(self._images):
            for name in image.stubs():
                found[at, name] = self._answer_address(name)
        return found

    def entries(self):
        """The images and places of the rows of live code pieces, by their entries."""
        found = {}
        for at in self._ascending():
            image = self._images[at]
            offsets = code_row_offsets(image)
            for offset in sorted(offsets):
                found[self._bases[at] + offset] = (at, *offsets[offset])
        return found

    def with_image(self, image, base):
        """The set with one more image behind the others."""
        images = [*self._images, image]
        bases = [*self._bases, base]
        return Loaded(*images, bases=bases)

    def address_of(self, at, target):
        """The address of a target, a live piece or a stub, in the image with an index."""
        layout = self._images[at].layout
        if target[0] == "stub":
            return wrapped(self._bases[at] + layout.stub_offset(target[1]))
        return wrapped(self._bases[at] + layout.piece_offset(target[1:]))

    def slot_address(self, at, name):
        """The address of the slot of a stub in the image with an index."""
        return self._bases[at] + self._images[at].layout.slot_offset(name)

    def __len__(self):
        return len(self._images)

    def __repr__(self):
        return f"Loaded({len(self._images)} images)"

    def _ascending(self):
        """The indexes of the images, in the order of their bases."""
        places = {base: at for at, base in enumerate(self._bases)}
        return [places[base] for base in sorted(places)]

    def _answer_address(self, name):
        """The address of the answer of a stub, 0 without one."""
        at = self.exporter(name)
        if at is None:
            return 0
        return self._bases[at] + self._images[at].exports()[name]


def offset_in(image, base, address):
    """The offset of the cell at an address, None for any value that is no address of one."""
    if not is_number(address, base, base + image.size - 1):
        return None
    return address - base


def code_row_offsets(image):
    """The places of the rows of the live code pieces of an image, by their offsets."""
    found = {}
    for key in live_pieces(image.book, image.needs()):
        piece = image.book.piece(key)
        if piece.part == "code":
            for row in range(len(piece)):
                place = (*key, row)
                found[image.layout.row_offset(place)] = place
    return found


def _check_images(images):
    if len(images) == 0:
        raise InvalidImage(0)
    for at, image in enumerate(images):
        if not isinstance(image, Image) or at == MOST_IMAGES:
            raise InvalidImage(at)


def _check_bases(images, bases):
    if not isinstance(bases, (list, tuple)) or len(bases) != len(images):
        raise InvalidBase(-1)
    for at, image in enumerate(images):
        if not image.is_base(bases[at]):
            raise InvalidBase(at)
    for at, image in enumerate(images):
        for earlier in range(at):
            if are_near(bases[at], image.size, bases[earlier], images[earlier].size):
                raise Overlap(at)


def are_near(one, size, other, other_size):
    """Whether two runs of so many addresses have one in common."""
    return one < other + other_size and other < one + size

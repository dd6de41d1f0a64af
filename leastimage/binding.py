"""The order of the images of a run, and the stubs that it has bound."""

from leastimage.errors import UnknownImage, UnknownRoot
from leastimage.words import is_index


class Binding:
    """The order of some images, and the pieces to which their stubs are bound.

    Such a piece is told by the pair of the index of its image and its key.
    """

    def __init__(self, images, early):
        self.early = early
        self.sequence = list(range(len(images)))
        self._exported = [exported_keys(image) for image in images]
        self._chosen = {}
        for at, image in enumerate(images):
            self._bind_early(at, image)

    def take(self, image, ahead):
        """Takes one more image, behind all others or ahead of them."""
        at = len(self._exported)
        self._exported.append(exported_keys(image))
        self.sequence.insert(0 if ahead else at, at)
        self._bind_early(at, image)

    def piece_of(self, at, name):
        """The piece to which a stub is bound from now on, None without an answer."""
        if (at, name) not in self._chosen:
            answer = self._answer(name)
            if answer is None:
                return None
            self._chosen[at, name] = answer
        return self._chosen[at, name]

    def chosen(self):
        """The pieces of the bound stubs, by the indexes of images and the names."""
        return {stub: self._chosen[stub] for stub in sorted(self._chosen)}

    def twin(self):
        """An independent binding in the same state."""
        other = Binding([], self.early)
        other.sequence = list(self.sequence)
        other._exported = list(self._exported)
        other._chosen = self.chosen()
        return other

    def _bind_early(self, at, image):
        """Binds the stubs of an image that have an answer, in an early run."""
        if self.early:
            for name in image.stubs():
                self.piece_of(at, name)

    def _answer(self, name):
        """The piece that the first image in the order exports under a name."""
        for at in self.sequence:
            if name in self._exported[at]:
                return at, self._exported[at][name]
        return None


def exported_keys(image):
    """The keys of the pieces that an image exports, by their names."""
    return {name: image.book.answer(name) for name in image.exports()}


def begin_key(loaded, name, at):
    """The key of the piece that the image with an index exports under a name."""
    check_image(at, len(loaded))
    exported = exported_keys(loaded.images()[at])
    if not isinstance(name, str) or name not in exported:
        raise UnknownRoot(name)
    return exported[name]


def check_image(at, many):
    """Refuses what is no index of one of so many images."""
    if not is_index(at, many):
        raise UnknownImage(at)

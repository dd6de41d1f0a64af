"""The order of the code, and the stretches of references in it."""

from leastimage.errors import InvalidNumber, UnknownPlace
from leastimage.needs import is_bending
from leastimage.sequences import STARTS, Sequence
from leastimage.words import is_number


def points(book, needs):
    """The list of the points of the code of a set, in order."""
    return Sequence(book, needs).in_order()


def laid(book, needs, lower, higher, start):
    """The stretch from a start between two points of the code of a set."""
    return Sequence(book, needs).stretch_from(lower, higher, start)


def stretch(book, needs, place, start):
    """The stretch of a reference from a start."""
    sequence = Sequence(book, needs)
    lower, higher = _ends(book, sequence, place)
    if not is_number(start, 0, STARTS - 1):
        raise InvalidNumber(start)
    return sequence.stretch_from(lower, higher, start)


def greatest_stretch(book, needs, place):
    """The pair of the greatest stretch of a reference and the least start for it."""
    sequence = Sequence(book, needs)
    lower, higher = _ends(book, sequence, place)
    return sequence.greatest(lower, higher)


def point_of(target):
    """The point of a target: that of its stub, or of the first row of its piece.

    For a data piece and for a target that is none it is no point of any code.
    """
    if target[0] == "piece":
        return (*target[1:], 0)
    return target


def _ends(book, sequence, place):
    """The two points of a reference, the earlier one ahead."""
    if not is_bending(book, place) or not sequence.has_point(place):
        raise UnknownPlace(place)
    point = point_of(book.target(place))
    if not sequence.has_point(point):
        raise UnknownPlace(place)
    return sequence.ends(place, point)

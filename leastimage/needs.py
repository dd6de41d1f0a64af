"""Needs of books, roots and reaches."""

from leastimage.errors import InvalidNeed, InvalidReach, InvalidRoots
from leastimage.forms import LONG_SIZES
from leastimage.words import is_name, is_number

MOST_ROOTS = 4
LEAST_REACH = 4
MOST_REACH = 100


def is_need(book, value):
    """Whether any value is a need of a book."""
    if not isinstance(value, tuple) or len(value) == 0:
        return False
    word = value[0]
    if word == "live":
        return book.has_key(value[1:])
    if word == "drawn":
        return value[1:] in book.drawable()
    if word == "stub":
        return len(value) == 2 and book.is_known(value[1])
    return word == "long" and is_bending(book, value[1:])


def is_bending(book, value):
    """Whether any value is the place of a reference with a short and a long form."""
    if not book.refers(value):
        return False
    return book.row(value)[0] in LONG_SIZES


def check_needs(book, needs):
    """Refuses what is no list of needs of a book."""
    if not isinstance(needs, (list, tuple)):
        raise InvalidNeed(-1)
    for at, need in enumerate(needs):
        if not is_need(book, need):
            raise InvalidNeed(at)


def is_roots(value):
    """Whether any value is a list of 1 to 4 different names."""
    if not isinstance(value, (list, tuple)) or not 1 <= len(value) <= MOST_ROOTS:
        return False
    return all([is_name(root) for root in value]) and len(set(value)) == len(value)


def is_reach(value):
    """Whether any value is a number from 4 to 100."""
    return is_number(value, LEAST_REACH, MOST_REACH)


def check_roots(roots):
    """Refuses what gives no roots."""
    if not is_roots(roots):
        raise InvalidRoots()


def check_reach(reach):
    """Refuses what is no reach."""
    if not is_reach(reach):
        raise InvalidReach(reach)


def live_pieces(book, needs):
    """The list of the keys, by ranks, of the pieces that are live."""
    held = {need: True for need in needs}
    return [key for key in book.ranked() if ("live", *key) in held]


def stub_names(needs):
    """The ascending list of the names of the stubs."""
    return sorted({need[1] for need in needs if need[0] == "stub"})


def is_long(needs, place):
    """Whether the reference at a place has the long form."""
    return ("long", *place) in needs

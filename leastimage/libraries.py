"""The general library of some names."""

from leastimage.books import wide_book
from leastimage.errors import InvalidName, InvalidRoots
from leastimage.fresh import fresh_names
from leastimage.images import link
from leastimage.objects import MOST_PIECES, Object
from leastimage.pieces import Piece
from leastimage.words import is_name

FIRST_OUTPUT = 60000


def general_library(names, *, page=16):
    """An image that exports just these names, each with an output of its own."""
    if not isinstance(names, (list, tuple)) or len(names) == 0:
        raise InvalidRoots()
    _check_names(names)
    pieces = [_printing(name, FIRST_OUTPUT + at) for at, name in enumerate(names)]
    groups = [pieces[at : at + MOST_PIECES] for at in range(0, len(pieces), MOST_PIECES)]
    titles = fresh_names(len(groups), [])
    book = wide_book([Object(title, *group) for title, group in zip(titles, groups)])
    return link(book, [names[0]], page=page)


def _check_names(names):
    """Refuses what is no name or stands ahead."""
    ahead = {}
    for name in names:
        if not is_name(name) or name in ahead:
            raise InvalidName(name)
        ahead[name] = True


def _printing(name, word):
    """The piece of a name, which outputs a word; it is live without references."""
    rows = [("put", "r0", word), ("out", "r0"), ("back",)]
    return Piece(name, "code", rows, scope="export", keep=True)

"""Images that are taken apart into books."""

from leastimage.books import wide_book
from leastimage.contents import objects_in
from leastimage.fresh import fresh_names
from leastimage.needs import live_pieces
from leastimage.objects import wide_object
from leastimage.pieces import Piece


def taken_apart(image):
    """The book of the live pieces of an image, all of them in objects and kept."""
    book = image.book
    live = {key: True for key in live_pieces(book, image.needs())}
    holders = _live_holders(book, live)
    titles = fresh_names(len(holders), [])
    objects = [_apart(book, title, *holder) for title, holder in zip(titles, holders)]
    return wide_book(objects)


def _live_holders(book, live):
    """The pairs of an object, or member, and the keys of its live pieces, by ranks."""
    holders = []
    for unit in book.units():
        for member, holder in objects_in(unit):
            keys = [(unit.name, member, piece.name) for piece in holder.pieces()]
            keys = [key for key in keys if key in live]
            if len(keys) > 0:
                holders.append((holder, keys))
    return holders


def _apart(book, title, holder, keys):
    """The object with the live pieces of an object or a member."""
    # A new name must not catch what a reference of the object leads to.
    taken = {name: True for name in book.known()}
    taken.update({piece.name: True for piece in holder.pieces()})
    renamed = [key for key in keys if not _keeps_name(book, key)]
    names = dict(zip(renamed, fresh_names(len(renamed), taken)))
    pieces = [_kept(book.piece(key), names.get(key)) for key in keys]
    return wide_object(title, pieces, holder.outside())


def _keeps_name(book, key):
    """Whether a piece is found by its name, as an answer or within its object."""
    return book.answer(key[2]) == key or not book.piece(key).is_shared()


def _kept(piece, new_name):
    """The piece, kept; under a new name it is a local one."""
    name = piece.name if new_name is None else new_name
    scope = piece.scope if new_name is None else "local"
    return Piece(
        name,
        piece.part,
        piece.rows(),
        alignment=piece.alignment,
        scope=scope,
        keep=True,
    )

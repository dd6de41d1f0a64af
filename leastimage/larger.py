"""Larger books, the general one among them, and what they need."""

from leastimage.books import wide_book
from leastimage.closure import Closure
from leastimage.errors import InvalidNeed
from leastimage.fresh import fresh_names
from leastimage.growing import grows
from leastimage.needs import check_reach, check_roots, is_need
from leastimage.objects import Object, wide_object
from leastimage.pieces import MOST_ROWS, Piece

HALT = ("halt",)


def is_larger(big, book):
    """Whether big is larger than book."""
    return grows(big, book)


def general_book(book, *, reach=40):
    """The larger book that has each need that any larger one has."""
    check_reach(reach)
    units = book.units()
    first, second, title, *titles = fresh_names(len(units) + 3, [unit.name for unit in units])
    wide = [_filler(title, book, reach)]
    for unit, behind in zip(units, titles):
        wide.append(unit)
        wide.append(_filler(behind, book, reach))
    wide.append(_answering(first, book))
    wide.append(_asking(second, book))
    return wide_book(wide)


def outlook(book, roots, need, *, reach=40):
    """Whether all larger books have a need, or some, or none."""
    wide = _needing(book, roots, need, reach)
    if wide is None:
        return "never"
    return "surely" if wide.book == book else "ever"


def witness(book, roots, need, *, reach=40):
    """A larger book that has a need, with a chain for it, None if there is none."""
    wide = _needing(book, roots, need, reach)
    if wide is None:
        return None
    return wide.book, wide.chain(need)


def _needing(book, roots, need, reach):
    """A closure with a need, for the book or for the general one, None without it."""
    check_roots(roots)
    check_reach(reach)
    if not is_need(book, need):
        raise InvalidNeed(0)
    closure = Closure(book, roots, reach=reach)
    closure.finish()
    if need in closure:
        return closure
    wide = closure.widened(general_book(book, reach=reach))
    wide.finish()
    return wide if need in wide else None


def _filler(title, book, reach):
    """An object over whose piece no reference of the code leads in its short form."""
    name = fresh_names(1, book.known())[0]
    return Object(title, Piece(name, "code", [("room", reach + 1), HALT], keep=True))


def _answering(title, book):
    """The object that answers all references, and makes data live."""
    pieces = [Piece(name, "code", [HALT], scope="open", keep=True) for name in _unanswered(book)]
    answered = [name for name in book.known() if book.answer(name) is not None]
    data = [name for name in answered if book.piece(book.answer(name)).part == "data"]
    return wide_object(title, pieces + _naming_pieces(book, data), [])


def _asking(title, book):
    """The object that needs the stubs of all known names."""
    return wide_object(title, _naming_pieces(book, book.known()), book.known())


def _unanswered(book):
    """The ascending list of the names to which some reference has no target."""
    places = [(*key, at) for key in book.ranked() for at in book.references(key)]
    targets = [book.target(place) for place in places]
    return sorted({target[1] for target in targets if target[0] == "none"})


def _naming_pieces(book, names):
    """Kept local pieces with a row for each name, which have no known names."""
    many = MOST_ROWS - 1
    groups = [names[at : at + many] for at in range(0, len(names), many)]
    titles = fresh_names(len(groups), book.known())
    return [_naming_piece(title, group) for title, group in zip(titles, groups)]


def _naming_piece(title, names):
    rows = [("name", "r0", name) for name in names]
    return Piece(title, "code", rows + [HALT], keep=True)

"""Images, and how they are made."""

from leastimage.closure import needs_of
from leastimage.errors import InvalidBase, NotClosed, NotCode, Unanswered, UnknownRoot
from leastimage.forms import placed, row_cells, row_fields, stub_cells
from leastimage.halves import wrapped
from leastimage.judging import missing_step
from leastimage.layout import Layout, check_page
from leastimage.needs import check_reach, check_roots, is_long, live_pieces, stub_names
from leastimage.words import is_number

MOST_ADDRESSES = 65536
GOING = ("jump", "ifzero", "call")


class Image:
    """The cells of a closed set of needs, which can be loaded. It never changes."""

    def __init__(self, book, roots, needs, reach, page):
        self._book = book
        self._reach = reach
        self._roots = list(roots)
        self._needs = sorted(set(needs))
        self.layout = Layout(book, self._needs, page=page)
        held = {need: True for need in self._needs}
        self._fields = records_of(book, held, self.layout)
        self._cells = cells_of(book, held, self.layout)

    @property
    def book(self):
        """The book."""
        return self._book

    @property
    def reach(self):
        """The reach."""
        return self._reach

    @property
    def page(self):
        """The page."""
        return self.layout.page

    @property
    def size(self):
        """The number of the cells."""
        return self.layout.size

    def roots(self):
        """The list of the roots."""
        return list(self._roots)

    def needs(self):
        """The ascending list of the needs."""
        return list(self._needs)

    def cells(self, base):
        """The list of the cells, loaded at a base."""
        if not self.is_base(base):
            raise InvalidBase(0)
        cells = list(self._cells)
        for offset, field, target in self._fields:
            cells[offset] = placed(cells[offset], field, wrapped(base + target))
        return cells

    def is_base(self, value):
        """Whether any value is a base at which the image can be loaded."""
        if not is_number(value, self.page, MOST_ADDRESSES - self.size):
            return False
        return value % self.page == 0

    def records(self):
        """The ascending list of the records."""
        return list(self._fields)

    def exports(self):
        """The offsets of the pieces that the image exports, by their names."""
        answers = {name: self.book.answer(name) for name in self.book.known()}
        live = {key: True for key in live_pieces(self.book, self._needs)}
        return {
            name: self.layout.piece_offset(key)
            for name, key in answers.items()
            if key in live and self.book.piece(key).part == "code"
        }

    def stubs(self):
        """The ascending list of the names of the stubs."""
        return stub_names(self._needs)

    def turnable(self):
        """The ascending list of the places of the references to stubs."""
        places = _live_references(self.book, self._needs)
        return sorted([place for place in places if self.book.target(place)[0] == "stub"])

    def is_least(self):
        """Whether the needs are those of the book."""
        return self._needs == needs_of(self.book, self._roots, reach=self.reach)

    def __eq__(self, other):
        return (
            isinstance(other, Image)
            and self.book == other.book
            and self._roots == other._roots
            and self._needs == other._needs
            and self.reach == other.reach
            and self.page == other.page
        )

    def __len__(self):
        return len(self._cells)

    def __bool__(self):
        return True

    def __repr__(self):
        return f"Image({len(self._cells)} cells)"


def link(book, roots, *, reach=40, page=16):
    """The image with the needs of a book."""
    check_roots(roots)
    check_reach(reach)
    check_page(page)
    return linked(book, roots, needs_of(book, roots, reach=reach), reach, page)


def image_of(book, roots, needs, *, reach=40, page=16):
    """The image with a closed set of needs."""
    check_roots(roots)
    check_reach(reach)
    check_page(page)
    step = missing_step(book, roots, needs, reach=reach)
    if step is not None:
        raise NotClosed(step[0])
    return linked(book, roots, needs, reach, page)


def linked(book, roots, needs, reach, page):
    """The image with a set of needs that is known to be closed."""
    _check_links(book, roots, needs)
    return Image(book, roots, needs, reach, page)


def _check_links(book, roots, needs):
    """Refuses roots without code, and references that lead to nothing or to data."""
    for root in roots:
        key = book.answer(root)
        if key is None or book.piece(key).part == "data":
            raise UnknownRoot(root)
    for place in _live_references(book, needs):
        target = book.target(place)
        if target[0] == "none":
            raise Unanswered(target[1], place)
        if book.row(place)[0] in GOING and target[0] == "piece":
            if book.piece(target[1:]).part == "data":
                raise NotCode(target[3], place)


def _live_references(book, needs):
    """The places of the references of live pieces, by ranks and rows."""
    live = live_pieces(book, needs)
    return [(*key, at) for key in live for at in book.references(key)]


def _target_offset(book, layout, place):
    """The offset to which the reference at a place leads, 0 for other rows."""
    if not book.refers(place):
        return 0
    target = book.target(place)
    if target[0] == "stub":
        return layout.stub_offset(target[1])
    return layout.piece_offset(target[1:])


def records_of(book, held, layout):
    """The ascending list of the records of an image, from a dict with its needs."""
    records = []
    for name in stub_names(held):
        # A stub begins with the halves of the address of its slot.
        records.append((layout.stub_offset(name), "high", layout.slot_offset(name)))
        records.append((layout.stub_offset(name) + 1, "low", layout.slot_offset(name)))
    for place in _live_references(book, held):
        target = _target_offset(book, layout, place)
        for at, field in row_fields(book.row(place), is_long(held, place)):
            records.append((layout.row_offset(place) + at, field, target))
    return sorted(records)


def cells_of(book, held, layout):
    """The cells of an image, from a dict with its needs, if it began at the address 0."""
    cells = [0] * layout.size
    for name in stub_names(held):
        at = layout.stub_offset(name)
        told = stub_cells(layout.slot_offset(name))
        cells[at : at + len(told)] = told
    for key in live_pieces(book, held):
        for index, row in enumerate(book.piece(key).rows()):
            place = (*key, index)
            at = layout.row_offset(place)
            target = _target_offset(book, layout, place)
            told = row_cells(row, at, target, is_long(held, place))
            cells[at : at + len(told)] = told
    return cells

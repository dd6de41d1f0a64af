"""Linkers, which keep the needs of a book while its units change."""

from leastimage.closure import Closure
from leastimage.growing import grows
from leastimage.images import linked
from leastimage.layout import check_page


class Linker:
    """A book with roots, a reach, a page and its needs."""

    def __init__(self, book, roots, *, reach=40, page=16):
        closure = Closure(book, roots, reach=reach)
        check_page(page)
        closure.finish()
        self._page = page
        self._closure = closure
        self._times_begun = 1

    @property
    def book(self):
        """The present book."""
        return self._closure.book

    @property
    def reach(self):
        """The reach."""
        return self._closure.reach

    @property
    def page(self):
        """The page."""
        return self._page

    @property
    def begun(self):
        """How often the needs were begun anew, 1 at first."""
        return self._times_begun

    def roots(self):
        """The list of the roots."""
        return self._closure.roots()

    def needs(self):
        """The ascending list of the needs of the present book."""
        return self._closure.needs()

    def put(self, unit, at=None):
        """Puts a unit on; whether the needs could be continued from the old ones."""
        book = self.book.with_unit(unit, at)
        if not grows(book, self.book):
            self._begin_anew(book)
            return False
        closure = self._closure.widened(book)
        closure.finish()
        self._closure = closure
        return True

    def take_off(self, name):
        """Takes the unit with a name off."""
        self._begin_anew(self.book.without(name))

    def image(self):
        """The image with the needs of the present book."""
        return linked(self.book, self.roots(), self.needs(), self.reach, self.page)

    def twin(self):
        """An independent linker in the same state."""
        other = Linker(self.book, self.roots(), reach=self.reach, page=self.page)
        other._times_begun = self._times_begun
        return other

    def __len__(self):
        return len(self.book)

    def __bool__(self):
        return True

    def __repr__(self):
        return f"Linker({len(self.book)} units, {len(self._closure)} needs)"

    def _begin_anew(self, book):
        closure = Closure(book, self.roots(), reach=self.reach)
        closure.finish()
        self._closure = closure
        self._times_begun = self._times_begun + 1

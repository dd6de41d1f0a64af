"""What lies on a desk, and the deeds that change it."""

from leastimage.books import Book
from leastimage.ends import check_most
from leastimage.errors import InvalidDeed, NoRun
from leastimage.images import link
from leastimage.layout import check_page
from leastimage.loading import Loaded
from leastimage.needs import check_reach, check_roots
from leastimage.runs import Run

FIRST_ROOT = "main"
FIRST_REACH = 40
FIRST_PAGE = 16
MOST_GO_ROWS = 200
# The words of the deeds, with the numbers of their items.
SIZES = {
    "put": 2,
    "off": 2,
    "roots": 2,
    "reach": 2,
    "page": 2,
    "load": 3,
    "go": 2,
    "rewrite": 3,
    "restore": 2,
    "drop": 1,
}


class Table:
    """A book, roots, a reach, a page, and a run or None."""

    def __init__(self):
        self.kept_book = Book()
        self.kept_roots = [FIRST_ROOT]
        self.kept_reach = FIRST_REACH
        self.kept_page = FIRST_PAGE
        self.kept_run = None

    def linked_image(self):
        """The image that link gives."""
        return link(self.kept_book, self.kept_roots, reach=self.kept_reach, page=self.kept_page)

    def present_run(self):
        """The run, which must be there."""
        if self.kept_run is None:
            raise NoRun()
        return self.kept_run

    def twin(self):
        """An independent table that is the same."""
        other = Table()
        other.kept_book = self.kept_book
        other.kept_roots = list(self.kept_roots)
        other.kept_reach = self.kept_reach
        other.kept_page = self.kept_page
        other.kept_run = None if self.kept_run is None else self.kept_run.twin()
        return other


def table_behind(table, deeds):
    """The table as it is behind some deeds; the old one stays as it is."""
    for at, deed in enumerate(deeds):
        if not _is_deed(deed):
            raise InvalidDeed(at)
    changed = table.twin()
    for deed in deeds:
        word, *values = deed
        act = ACTS[word]
        act(changed, *values)
    return changed


def _is_deed(value):
    """Whether any value is a tuple that begins and is as long as a deed."""
    if not isinstance(value, tuple) or len(value) == 0 or not isinstance(value[0], str):
        return False
    if value[0] not in SIZES or len(value) != SIZES[value[0]]:
        return False
    return value[0] != "load" or value[2] is True or value[2] is False


def _put(table, unit):
    table.kept_book = table.kept_book.with_unit(unit)


def _off(table, name):
    table.kept_book = table.kept_book.without(name)


def _roots(table, roots):
    check_roots(roots)
    table.kept_roots = list(roots)


def _reach(table, reach):
    check_reach(reach)
    table.kept_reach = reach


def _page(table, page):
    check_page(page)
    table.kept_page = page


def _load(table, base, early):
    loaded = Loaded(table.linked_image(), bases=[base])
    table.kept_run = Run(loaded, table.kept_roots[0], early=early)


def _go(table, many):
    run = table.present_run()
    check_most(many, 1, MOST_GO_ROWS)
    run.run(many)


def _rewrite(table, key, rows):
    table.present_run().rewrite(key, rows)


def _restore(table, key):
    table.present_run().take_back(key)


def _drop(table):
    table.present_run()
    table.kept_run = None


ACTS = {
    "put": _put,
    "off": _off,
    "roots": _roots,
    "reach": _reach,
    "page": _page,
    "load": _load,
    "go": _go,
    "rewrite": _rewrite,
    "restore": _restore,
    "drop": _drop,
}

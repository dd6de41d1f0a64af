"""The texts of desks, and how they are read."""

from leastimage.books import Book
from leastimage.deeds import Table
from leastimage.desk import desk_with
from leastimage.layout import is_page
from leastimage.needs import is_reach, is_roots
from leastimage.texts import MOST_BOOK_PIECES, Reader, read_next
from leastimage.words import read_number


def write_desk(desk):
    """The text of a desk."""
    return desk.text()


def read_desk(text):
    """The desk with a text, without a run and without history."""
    reader = Reader(text, MOST_BOOK_PIECES)
    units = []
    while reader.present().split(" ")[0] != "roots":
        units.append(read_next(reader, units))
    table = Table()
    table.kept_book = Book(*units)
    table.kept_roots = _read_roots(reader)
    table.kept_reach = _read_numbered(reader, "reach")
    if not is_reach(table.kept_reach):
        reader.refuse("form")
    reader.advance()
    table.kept_page = _read_numbered(reader, "page")
    if not is_page(table.kept_page):
        reader.refuse("form")
    reader.advance()
    if not reader.is_over():
        reader.refuse("form")
    return desk_with(table)


def _read_roots(reader):
    """The roots in the present line."""
    _, *roots = reader.present().split(" ")
    if not is_roots(roots):
        reader.refuse("form")
    reader.advance()
    return roots


def _read_numbered(reader, title):
    """The number behind the one word of the present line, None for any other line."""
    words = reader.present().split(" ")
    if len(words) != 2 or words[0] != title:
        return None
    return read_number(words[1])

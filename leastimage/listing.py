"""Images told in lines."""

from leastimage.rows import row_text


def listing(image, base):
    """A line for each cell of an image that is loaded at a base."""
    for offset, cell in enumerate(image.cells(base)):
        address = base + offset
        yield f"{address:>5} {cell:>5} {_told(image, offset)}"


def _told(image, offset):
    """What the cell at an offset is."""
    layout = image.layout
    place = layout.place_at(offset)
    if place is not None:
        return _row_told(image.book, place) if layout.row_offset(place) == offset else ".."
    stub = layout.stub_at(offset)
    if stub is not None:
        return f"stub {stub}" if layout.stub_offset(stub) == offset else ".."
    for name in image.stubs():
        if layout.slot_offset(name) == offset:
            return f"slot {name}"
    return "-"


def _row_told(book, place):
    """The key of the piece with dots between, and the text of the row."""
    key = ".".join([name for name in place[:3] if name != ""])
    rows = book.piece(place[:3]).rows()
    return key + " " + row_text(rows[place[3]])

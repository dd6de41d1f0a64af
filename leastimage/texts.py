"""The texts of objects, archives and books, and how they are read."""

from leastimage.errors import InvalidText
from leastimage.objects import MOST_MEMBERS, MOST_OUTSIDE, MOST_PIECES, Archive, Object
from leastimage.pieces import (
    ALIGNMENTS,
    MOST_ROWS,
    STRONG,
    Piece,
    ends_closing,
    is_part,
    is_scope_of,
)
from leastimage.rows import is_row_of, read_row, row_text
from leastimage.words import is_name

MOST_UNITS = 6
MOST_BOOK_PIECES = 24


class Reader:
    """The lines of a text, with the present one and the pieces it has room for."""

    def __init__(self, text, most_pieces):
        if not isinstance(text, str):
            raise InvalidText(0, "form")
        lines = text.split("\n")
        self._rest = lines.pop()
        self._lines = lines
        self._at = 0
        self._pieces_left = most_pieces

    def is_over(self):
        """Whether nothing is left, not even a line without its line feed."""
        return self._at == len(self._lines) and self._rest == ""

    def present(self):
        """The present line, which must be there and be whole."""
        if self._at < len(self._lines):
            return self._lines[self._at]
        raise InvalidText(self._at, "missing" if self._rest == "" else "form")

    def advance(self):
        """Goes on to the next line."""
        self._at += 1

    def refuse(self, why):
        """Refuses the text because of the present line."""
        raise InvalidText(self._at, why)

    def is_full(self):
        """Whether the text has all the pieces that it may have."""
        return self._pieces_left == 0

    def count_piece(self):
        """Counts one piece more."""
        self._pieces_left -= 1


class Head:
    """What the first line of a piece tells."""

    def __init__(self, part, name, alignment, scope, keep):
        self.part = part
        self.name = name
        self.alignment = alignment
        self.scope = scope
        self.keep = keep


def unit_text(unit):
    """The text of an object or an archive."""
    if isinstance(unit, Object):
        return _joined(_object_lines(unit))
    lines = [f"archive {unit.name}"]
    for member in unit.members():
        lines.extend(_object_lines(member))
    return _joined(lines + ["end"])


def units_text(units):
    """The texts of a list of units, one behind the other."""
    return "".join([unit_text(unit) for unit in units])


def read_units(text):
    """The list of the units of the text of a book."""
    reader = Reader(text, MOST_BOOK_PIECES)
    units = []
    while not reader.is_over():
        units.append(read_next(reader, units))
    return units


def read_unit(text):
    """The unit with a text, which may have more pieces than a book."""
    reader = Reader(text, MOST_MEMBERS * MOST_PIECES)
    unit = read_next(reader, [])
    if not reader.is_over():
        reader.refuse("form")
    return unit


def read_next(reader, ahead):
    """The unit that begins at the present line, behind the units ahead."""
    word, name = _read_title(reader, ("object", "archive"), ahead, MOST_UNITS)
    if word == "object":
        return _read_object(reader, name, _strong_names(ahead))
    members = []
    while reader.present() != "end":
        _, member = _read_title(reader, ("object",), members, MOST_MEMBERS)
        members.append(_read_object(reader, member, []))
    reader.advance()
    return Archive(name, *members)


def _joined(lines):
    return "".join([line + "\n" for line in lines])


def _object_lines(unit):
    lines = [f"object {unit.name}"]
    lines.extend([f"outside {name}" for name in unit.outside()])
    for piece in unit.pieces():
        lines.append(_head_line(piece))
        lines.extend([row_text(row) for row in piece.rows()])
    return lines + ["end"]


def _head_line(piece):
    line = f"{piece.part} {piece.name} {piece.alignment} {piece.scope}"
    if piece.keep:
        return line + " keep"
    return line


def _read_title(reader, words, ahead, most):
    """The word and the name in the first line of a unit or of a member."""
    title = reader.present().split(" ")
    if len(title) != 2 or title[0] not in words or not is_name(title[1]):
        reader.refuse("form")
    if len(ahead) == most:
        reader.refuse("many")
    if title[1] in _names(ahead):
        reader.refuse("double")
    reader.advance()
    return title


def _read_object(reader, name, strong):
    """The object behind its first line, with the strong names of units ahead."""
    outside = _read_outside(reader)
    pieces = []
    head = _head_or_end(reader)
    while head is not None:
        if len(pieces) == MOST_PIECES or reader.is_full():
            reader.refuse("many")
        if head.name in outside or head.name in _names(pieces):
            reader.refuse("double")
        if head.scope in STRONG and head.name in strong:
            reader.refuse("strong")
        reader.advance()
        pieces.append(_read_piece(reader, head))
        head = _head_or_end(reader)
    reader.advance()
    return Object(name, *pieces, outside=outside)


def _read_outside(reader):
    """The outside names whose lines begin at the present one."""
    names = []
    name = _outside_in(reader.present())
    while name is not None:
        if len(names) == MOST_OUTSIDE:
            reader.refuse("many")
        if name in names:
            reader.refuse("double")
        names.append(name)
        reader.advance()
        name = _outside_in(reader.present())
    return names


def _read_piece(reader, head):
    """The piece behind its first line."""
    rows = []
    row = read_row(reader.present())
    while is_row_of(head.part, row):
        if len(rows) == MOST_ROWS:
            reader.refuse("many")
        rows.append(row)
        reader.advance()
        row = read_row(reader.present())
    # A line that may not stand behind the rows at all is refused for its form.
    _head_or_end(reader)
    if not ends_closing(head.part, rows):
        reader.refuse("closing")
    reader.count_piece()
    return Piece(
        head.name,
        head.part,
        rows,
        alignment=head.alignment,
        scope=head.scope,
        keep=head.keep,
    )


def _head_or_end(reader):
    """The head in the present line, None for the line end of an object."""
    line = reader.present()
    if line == "end":
        return None
    words = line.split(" ")
    if not _is_head(words):
        reader.refuse("form")
    return Head(words[0], words[1], int(words[2]), words[3], len(words) == 5)


def _is_head(words):
    """Whether a line of these words is the first line of a piece."""
    if len(words) != 4 and (len(words) != 5 or words[4] != "keep"):
        return False
    part, name, alignment, scope = words[:4]
    if not is_part(part) or not is_name(name):
        return False
    return alignment in [str(number) for number in ALIGNMENTS] and is_scope_of(part, scope)


def _outside_in(line):
    """The name in a line of an outside name, None for any other line."""
    words = line.split(" ")
    if len(words) == 2 and words[0] == "outside" and is_name(words[1]):
        return words[1]
    return None


def _names(parts):
    return [part.name for part in parts]


def _strong_names(units):
    """The names of the strong pieces of those units that are objects."""
    objects = [unit for unit in units if isinstance(unit, Object)]
    return [piece.name for unit in objects for piece in unit.pieces() if piece.is_strong()]

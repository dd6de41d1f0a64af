"""Pieces of code and of data."""

from leastimage.errors import (
    InvalidAlignment,
    InvalidName,
    InvalidPart,
    InvalidRow,
    InvalidScope,
    NotClosing,
    TooMany,
)
from leastimage.rows import is_closing, is_row_of
from leastimage.words import is_name, is_number

PARTS = ("code", "data")
ALIGNMENTS = (1, 2, 4, 8, 16)
SCOPES = ("local", "export", "open", "weak")
STRONG = ("export", "open")
MOST_ROWS = 16


class Piece:
    """A piece of a part, with its rows. It never changes."""

    def __init__(self, name, part, rows, *, alignment=1, scope="local", keep=False):
        if not is_name(name):
            raise InvalidName(name)
        if not is_part(part):
            raise InvalidPart(part)
        _check_rows(part, rows)
        if not ends_closing(part, rows):
            raise NotClosing()
        if not is_alignment(alignment):
            raise InvalidAlignment(alignment)
        if not is_scope_of(part, scope):
            raise InvalidScope(scope)
        self.name = name
        self.part = part
        self.alignment = alignment
        self.scope = scope
        self.keep = keep
        self._rows = list(rows)

    def rows(self):
        """The list of the rows."""
        return list(self._rows)

    def is_shared(self):
        """Whether the scope is another one than local."""
        return self.scope != "local"

    def is_strong(self):
        """Whether the scope is export or open."""
        return self.scope in STRONG

    def __eq__(self, other):
        return (
            isinstance(other, Piece)
            and self.name == other.name
            and self.part == other.part
            and self.alignment == other.alignment
            and self.scope == other.scope
            and self.keep == other.keep
            and self._rows == other._rows
        )

    def __len__(self):
        return len(self._rows)

    def __bool__(self):
        return True

    def __repr__(self):
        return f"Piece({self.part} {self.name}, {len(self._rows)} rows)"


def is_part(value):
    """Whether any value is the word of a part."""
    return isinstance(value, str) and value in PARTS


def is_alignment(value):
    """Whether any value is a number at whose multiples a piece can begin."""
    return is_number(value, 1, 16) and value in ALIGNMENTS


def is_scope_of(part, value):
    """Whether any value is a scope that a piece of a part can have."""
    if not isinstance(value, str) or value not in SCOPES:
        return False
    return part == "code" or value != "open"


def ends_closing(part, rows):
    """Whether no run of these rows can come behind the last one."""
    return part == "data" or (len(rows) > 0 and is_closing(rows[-1]))


def _check_rows(part, rows):
    if not isinstance(rows, (list, tuple)):
        raise InvalidRow(-1)
    if len(rows) > MOST_ROWS:
        raise TooMany(MOST_ROWS)
    for at, row in enumerate(rows):
        if not is_row_of(part, row):
            raise InvalidRow(at)

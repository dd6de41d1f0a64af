"""Objects, which hold pieces, and archives, which hold objects."""

from leastimage.errors import (
    DuplicateName,
    InvalidMember,
    InvalidName,
    InvalidOutside,
    InvalidPiece,
    TooMany,
    UnknownName,
)
from leastimage.pieces import Piece
from leastimage.words import is_name

MOST_PIECES = 8
MOST_OUTSIDE = 8
MOST_MEMBERS = 4


class Object:
    """Pieces with different names, and names outside. It never changes."""

    def __init__(self, name, *pieces, outside=()):
        _check_object(name, pieces, outside, False)
        self.name = name
        self._pieces = list(pieces)
        self._foreign = list(outside)

    def pieces(self):
        """The list of the pieces."""
        return list(self._pieces)

    def outside(self):
        """The list of the names that the object says to be outside."""
        return list(self._foreign)

    def piece(self, name):
        """The piece with a name."""
        for piece in self._pieces:
            if piece.name == name:
                return piece
        raise UnknownName(name)

    def with_piece(self, piece):
        """The object with a piece behind the others, or in place of its namesake."""
        pieces = list(self._pieces)
        if isinstance(piece, Piece) and piece.name in self:
            pieces[_names(pieces).index(piece.name)] = piece
        else:
            pieces.append(piece)
        return Object(self.name, *pieces, outside=self._foreign)

    def __contains__(self, value):
        return value in _names(self._pieces)

    def __eq__(self, other):
        return (
            isinstance(other, Object)
            and self.name == other.name
            and self._pieces == other._pieces
            and self._foreign == other._foreign
        )

    def __len__(self):
        return len(self._pieces)

    def __bool__(self):
        return True

    def __repr__(self):
        return f"Object({self.name}, {len(self._pieces)} pieces)"


class Archive:
    """Members, which are objects with different names. It never changes."""

    def __init__(self, name, *members):
        if not is_name(name):
            raise InvalidName(name)
        for at, member in enumerate(members):
            if not isinstance(member, Object):
                raise InvalidMember(at)
        if len(members) > MOST_MEMBERS:
            raise TooMany(MOST_MEMBERS)
        check_names(members)
        self.name = name
        self._members = list(members)

    def members(self):
        """The list of the members."""
        return list(self._members)

    def member(self, name):
        """The member with a name."""
        for member in self._members:
            if member.name == name:
                return member
        raise UnknownName(name)

    def __contains__(self, value):
        return value in _names(self._members)

    def __eq__(self, other):
        return (
            isinstance(other, Archive)
            and self.name == other.name
            and self._members == other._members
        )

    def __len__(self):
        return len(self._members)

    def __bool__(self):
        return True

    def __repr__(self):
        return f"Archive({self.name}, {len(self._members)} members)"


def wide_object(name, pieces, outside):
    """The object with lists that may be longer than those of other objects."""
    _check_object(name, pieces, outside, True)
    wide = Object(name)
    wide._pieces = list(pieces)
    wide._foreign = list(outside)
    return wide


def _check_object(name, pieces, outside, is_wide):
    if not is_name(name):
        raise InvalidName(name)
    for at, piece in enumerate(pieces):
        if not isinstance(piece, Piece):
            raise InvalidPiece(at)
    if len(pieces) > MOST_PIECES and not is_wide:
        raise TooMany(MOST_PIECES)
    check_names(pieces)
    if not isinstance(outside, (list, tuple)):
        raise InvalidOutside(-1)
    if len(outside) > MOST_OUTSIDE and not is_wide:
        raise TooMany(MOST_OUTSIDE)
    _check_outside(outside, _names(pieces))


def check_names(parts):
    """Refuses pieces or members of which one has the name of an earlier one."""
    ahead = {}
    for part in parts:
        if part.name in ahead:
            raise DuplicateName(part.name)
        ahead[part.name] = True


def _check_outside(outside, names):
    """Refuses what is no name, stands ahead, or is the name of a piece."""
    taken = {name: True for name in names}
    for at, name in enumerate(outside):
        if not is_name(name) or name in taken:
            raise InvalidOutside(at)
        taken[name] = True


def _names(parts):
    return [part.name for part in parts]

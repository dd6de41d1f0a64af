"""Books, which list objects and archives."""

from leastimage.contents import Contents, is_place, is_strings, owners_of
from leastimage.errors import (
    Double,
    InvalidNumber,
    InvalidUnit,
    TooMany,
    UnknownName,
    UnknownPiece,
    UnknownPlace,
)
from leastimage.objects import Archive, Object, check_names
from leastimage.texts import MOST_BOOK_PIECES, MOST_UNITS, read_units, units_text
from leastimage.words import is_number


class Book:
    """Units with different names, in an order. It never changes."""

    def __init__(self, *units):
        _check_units(units, False)
        self._units = list(units)
        self._contents = Contents(units)

    @staticmethod
    def read(text):
        """The book with a text."""
        units = read_units(text)
        return Book(*units)

    def units(self):
        """The list of the units."""
        return list(self._units)

    def unit(self, name):
        """The unit with a name."""
        for unit in self._units:
            if unit.name == name:
                return unit
        raise UnknownName(name)

    def with_unit(self, unit, at=None):
        """The book with one more unit, with an index or behind all others."""
        if at is None:
            units = [*self._units, unit]
            return Book(*units)
        if not is_number(at, 0, len(self._units)):
            raise InvalidNumber(at)
        units = [*self._units[:at], unit, *self._units[at:]]
        return Book(*units)

    def without(self, name):
        """The book without the unit with a name."""
        left_out = self.unit(name)
        # A book that is wider than others may still be so without a unit.
        return wide_book([unit for unit in self._units if unit.name != left_out.name])

    def ranked(self):
        """The list of the keys of all pieces, by ranks."""
        return list(self._contents.keyed)

    def has_key(self, value):
        """Whether any value is the key of a piece."""
        return is_strings(value, 3) and value in self._contents.keyed

    def piece(self, key):
        """The piece with a key."""
        if not self.has_key(key):
            raise UnknownPiece(key)
        return self._contents.keyed[key]

    def owner(self, key):
        """The object, or the member, with the piece that has a key."""
        if not self.has_key(key):
            raise UnknownPiece(key)
        return self._contents.owners[key]

    def drawable(self):
        """The list of the pairs (unit, member) of all members, by ranks."""
        archives = [unit for unit in self._units if isinstance(unit, Archive)]
        return [(unit.name, member.name) for unit in archives for member in unit.members()]

    def answer(self, name):
        """The key of the answer of a name, None without one."""
        if not isinstance(name, str):
            return None
        return self._contents.answers.get(name)

    def references(self, key):
        """The ascending list of the indexes of the rows of a piece that refer."""
        many = len(self.piece(key))
        return [at for at in range(many) if (*key, at) in self._contents.targets]

    def refers(self, value):
        """Whether any value is the place of a reference."""
        return is_place(value) and value in self._contents.targets

    def row(self, place):
        """The row at the place of a reference."""
        if not self.refers(place):
            raise UnknownPlace(place)
        return self.piece(place[:3]).rows()[place[3]]

    def target(self, place):
        """The target of the reference at a place."""
        if not self.refers(place):
            raise UnknownPlace(place)
        return self._contents.targets[place]

    def target_from(self, key, name):
        """The target that a reference with a name has in the object of a piece."""
        return self._contents.target_from(key, name)

    def behind(self, place):
        """The key of the piece behind the reference at a place, None without one."""
        target = self.target(place)
        if target[0] == "piece":
            return target[1:]
        answer = self.answer(target[1])
        if answer is None or self.piece(answer).part != "code":
            return None
        return answer

    def known(self):
        """The ascending list of the known names."""
        return list(self._contents.known_names)

    def is_known(self, value):
        """Whether any value is a known name."""
        return isinstance(value, str) and value in self._contents.known_names

    def text(self):
        """The texts of the units, one behind the other."""
        return units_text(self._units)

    def __add__(self, other):
        return self.with_unit(other)

    def __iter__(self):
        return iter(self._units)

    def __contains__(self, value):
        return value in [unit.name for unit in self._units]

    def __eq__(self, other):
        return isinstance(other, Book) and self._units == other._units

    def __len__(self):
        return len(self._units)

    def __bool__(self):
        return True

    def __str__(self):
        return str(self.text())

    def __repr__(self):
        return f"Book({len(self._units)} units)"


def wide_book(units):
    """The book of a list of units, which may be longer than those of other books."""
    _check_units(units, True)
    wide = Book()
    wide._units = list(units)
    wide._contents = Contents(units)
    return wide


def _check_units(units, is_wide):
    for at, unit in enumerate(units):
        if not isinstance(unit, (Object, Archive)):
            raise InvalidUnit(at)
    if len(units) > MOST_UNITS and not is_wide:
        raise TooMany(MOST_UNITS)
    check_names(units)
    if len(owners_of(units)) > MOST_BOOK_PIECES and not is_wide:
        raise TooMany(MOST_BOOK_PIECES)
    _check_strong(units)


def _check_strong(units):
    """Refuses two objects that both have a strong piece of one name."""
    holders = {}
    for unit in units:
        if isinstance(unit, Object):
            for piece in unit.pieces():
                if piece.is_strong() and piece.name in holders:
                    raise Double(piece.name, holders[piece.name], unit.name)
                if piece.is_strong():
                    holders[piece.name] = unit.name

"""The cells of rows, in the short and the long form, and those of stubs."""

from leastimage.cells import cell_of, with_part
from leastimage.halves import high_half, low_half, unsigned
from leastimage.words import REGISTERS

STUB = 4
# The register number that no row can name.
HIDDEN = 3
# Which cell of a long form holds the high half; the next one holds the low half.
HIGH_CELLS = {"name": 0, "jump": 0, "ifzero": 2, "call": 0}
LONG_SIZES = {"name": 2, "jump": 3, "ifzero": 5, "call": 3}
SHORT_CODES = {"name": "near", "jump": "jump", "ifzero": "ifzero", "call": "call"}


def row_size(row, long=False):
    """The number of cells of a row of either part."""
    word = row[0]
    if word == "room":
        return row[1]
    if word == "put":
        return 2
    if long and word in LONG_SIZES:
        return LONG_SIZES[word]
    return 1


def row_fields(row, long=False):
    """The pairs of a cell and the field of the target's address that it holds."""
    word = row[0]
    if word == "address":
        return [(0, "whole")]
    if long and word in HIGH_CELLS:
        at = HIGH_CELLS[word]
        return [(at, "high"), (at + 1, "low")]
    return []


def row_cells(row, at, target, long=False):
    """The cells of a row that begins at an address, with its target's address."""
    word = row[0]
    if word == "room":
        return [0] * row[1]
    if word == "word":
        return [row[1]]
    if word == "address":
        return [target]
    if word == "put":
        return _half_cells(_number(row[1]), row[2])
    if word not in SHORT_CODES:
        return [_only_cell(row)]
    if long:
        return _long_cells(row, target)
    return [cell_of(SHORT_CODES[word], r=_first_number(row), part=unsigned(target - at))]


def stub_cells(slot):
    """The cells of a stub whose slot has an address."""
    loads = cell_of("load", HIDDEN, HIDDEN)
    return _half_cells(HIDDEN, slot) + [loads, cell_of("jumpby", HIDDEN)]


def placed(cell, field, address):
    """The cell with a field of an address put in."""
    if field == "whole":
        return address
    if field == "high":
        return with_part(cell, high_half(address))
    return with_part(cell, unsigned(low_half(address)))


def _number(name):
    return REGISTERS.index(name)


def _first_number(row):
    """The number of the register that a reference names, 0 if it names none."""
    if row[1] in REGISTERS:
        return _number(row[1])
    return 0


def _half_cells(r, address):
    """The two cells that put an address into a register."""
    high = placed(cell_of("high", r), "high", address)
    return [high, placed(cell_of("low", r), "low", address)]


def _only_cell(row):
    """The cell of a row that has one form of one cell."""
    r = _number(row[1]) if len(row) > 1 else 0
    s = _number(row[2]) if len(row) > 2 else 0
    part = row[3] if len(row) > 3 else 0
    return cell_of(row[0], r, s, part)


def _long_cells(row, target):
    word = row[0]
    if word == "name":
        return _half_cells(_first_number(row), target)
    halves = _half_cells(HIDDEN, target)
    if word == "call":
        return halves + [cell_of("callby", HIDDEN)]
    leap = halves + [cell_of("jumpby", HIDDEN)]
    if word == "jump":
        return leap
    # If the register is not 0, the short jump leads around the long one.
    return [cell_of("ifzero", _first_number(row), part=2), cell_of("jump", part=4)] + leap

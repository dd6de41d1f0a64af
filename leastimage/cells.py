"""Instruction cells and their codes."""

from leastimage.errors import InvalidName, InvalidNumber
from leastimage.words import is_number, is_word

CODES = (
    "fault",
    "halt",
    "high",
    "low",
    "add",
    "take",
    "load",
    "store",
    "jump",
    "ifzero",
    "call",
    "near",
    "jumpby",
    "callby",
    "back",
    "out",
)


def cell_of(word, r=0, s=0, part=0):
    """The cell with the code of a word, two register numbers and a part."""
    if not isinstance(word, str) or word not in CODES:
        raise InvalidName(word)
    for value, most in ((r, 3), (s, 3), (part, 255)):
        if not is_number(value, 0, most):
            raise InvalidNumber(value)
    return CODES.index(word) * 4096 + r * 1024 + s * 256 + part


def parted(cell):
    """The word, the two register numbers and the part of a cell."""
    if not is_word(cell):
        raise InvalidNumber(cell)
    return CODES[cell // 4096], cell // 1024 % 4, cell // 256 % 4, cell % 256


def with_part(cell, part):
    """The cell with another part."""
    return cell // 256 * 256 + part

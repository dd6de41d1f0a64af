"""The two halves of an address, and numbers that wrap around."""

from leastimage.errors import InvalidNumber
from leastimage.words import is_number


def high_half(address):
    """The high half of a word, from 0 to 255."""
    return (address + 128) // 256 % 256


def low_half(address):
    """The low half of a word, from -128 to 127."""
    return address - 256 * ((address + 128) // 256)


def whole(high, low):
    """The word with these halves."""
    if not is_number(high, 0, 255):
        raise InvalidNumber(high)
    if not is_number(low, -128, 127):
        raise InvalidNumber(low)
    return wrapped(high * 256 + low)


def signed(part):
    """The number from -128 to 127 that a part of a cell stands for."""
    if part > 127:
        return part - 256
    return part


def unsigned(value):
    """A number modulo 256, as the part of a cell holds it."""
    return value % 256


def wrapped(value):
    """A number modulo 65536, as a cell holds it."""
    return value % 65536

"""Values of the plain machine: words, and addresses that know whose they are."""

from leastimage.contents import is_strings
from leastimage.halves import wrapped
from leastimage.words import is_word


def is_address(value):
    """Whether any value is an address value."""
    if not isinstance(value, tuple) or len(value) != 3:
        return False
    image, owner, distance = value
    return _is_count(image) and is_strings(owner, 3) and is_word(distance)


def sum_of(one, other):
    """The sum of two values, None for two addresses."""
    if is_word(one) and is_word(other):
        return wrapped(one + other)
    if is_address(one) and is_word(other):
        return _moved(one, other)
    if is_word(one) and is_address(other):
        return _moved(other, one)
    return None


def difference(one, other):
    """The first value less the other one, None if nobody can tell it."""
    if is_word(one) and is_word(other):
        return wrapped(one - other)
    if is_address(one) and is_word(other):
        return _moved(one, -other)
    if is_address(one) and is_address(other) and one[:2] == other[:2]:
        return wrapped(one[2] - other[2])
    return None


def in_place(value, cells):
    """Whether an address value leads to a cell of an owner with so many cells."""
    return is_address(value) and value[2] < cells


def address_in(image, target):
    """The address value of the target of a reference in an image."""
    if target[0] == "stub":
        return (image, ("", "", target[1]), 0)
    return (image, target[1:], 0)


def target_of(value):
    """The target that owns an address value."""
    owner = value[1]
    if owner[0] == "":
        return ("stub", owner[2])
    return ("piece", *owner)


def _is_count(value):
    """Whether any value is a number from 0 on."""
    return isinstance(value, int) and not isinstance(value, bool) and value >= 0


def _moved(value, words):
    """An address value with a number added to its distance."""
    return (*value[:2], wrapped(value[2] + words))

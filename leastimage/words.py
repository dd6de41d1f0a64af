"""The smallest values: names, registers, words and numbers."""

MOST_LETTERS = 6
MOST_WORD = 65535
MOST_DIGITS = 5
REGISTERS = ("r0", "r1", "r2")


def is_name(value):
    """Whether any value is a name: 1 to 6 lowercase letters."""
    if not isinstance(value, str) or not 1 <= len(value) <= MOST_LETTERS:
        return False
    return all(["a" <= letter <= "z" for letter in value])


def is_register(value):
    """Whether any value is one of r0, r1 and r2."""
    return isinstance(value, str) and value in REGISTERS


def is_word(value):
    """Whether any value is a number that a cell can hold."""
    return is_number(value, 0, MOST_WORD)


def is_number(value, least, most):
    """Whether any value is a number from least to most."""
    # For Python True and False are integers, here they are no numbers.
    if isinstance(value, bool) or not isinstance(value, int):
        return False
    return least <= value <= most


def is_index(value, many):
    """Whether any value is an index of one of so many things."""
    return is_number(value, 0, many - 1)


def read_number(text):
    """The number that is written so, None if none of at most five digits is."""
    # The length comes first: Python refuses to read very long numbers.
    if len(text) > MOST_DIGITS or not text.isascii() or not text.isdigit():
        return None
    if text.startswith("0") and text != "0":
        return None
    return int(text)

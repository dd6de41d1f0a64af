"""Rows of code and of data, and their texts."""

from leastimage.words import is_name, is_number, is_register, read_number

# What stands behind the word of a row: R is a register, N a name, n a word,
# d a distance, k a number of cells.
CODE_ROWS = {
    "put": ("R", "n"),
    "name": ("R", "N"),
    "add": ("R", "R"),
    "take": ("R", "R"),
    "load": ("R", "R", "d"),
    "store": ("R", "R", "d"),
    "jump": ("N",),
    "ifzero": ("R", "N"),
    "call": ("N",),
    "callby": ("R",),
    "back": (),
    "out": ("R",),
    "halt": (),
    "room": ("k",),
}
DATA_ROWS = {"word": ("n",), "address": ("N",), "room": ("k",)}
BOUNDS = {"n": (0, 65535), "d": (0, 15), "k": (1, 120)}
CLOSING = ("jump", "halt", "back")
NAMING = ("name", "jump", "ifzero", "call", "address")


def is_code_row(value):
    """Whether any value is a row of a code piece."""
    word = _word_of(value)
    return word in CODE_ROWS and _fit(value[1:], CODE_ROWS[word])


def is_data_row(value):
    """Whether any value is a row of a data piece."""
    word = _word_of(value)
    return word in DATA_ROWS and _fit(value[1:], DATA_ROWS[word])


def is_row_of(part, value):
    """Whether any value is a row of the part code or data."""
    if part == "code":
        return is_code_row(value)
    return is_data_row(value)


def is_closing(row):
    """Whether a row never goes on to the row behind it."""
    return is_code_row(row) and row[0] in CLOSING


def name_in(row):
    """The name in a row of either part, None if it has none."""
    if (is_code_row(row) or is_data_row(row)) and row[0] in NAMING:
        return row[-1]
    return None


def row_text(row):
    """The items of a row with single spaces between."""
    return " ".join([str(item) for item in row])


def read_row(text):
    """The row of either part with a text, None for any value that is none."""
    if not isinstance(text, str):
        return None
    word, *texts = text.split(" ")
    kinds = _kinds_of(word)
    if kinds is None or len(texts) != len(kinds):
        return None
    row = (word, *[_read_item(item, kind) for item, kind in zip(texts, kinds)])
    if is_code_row(row) or is_data_row(row):
        return row
    return None


def _word_of(value):
    """The string that a tuple begins with, the empty string for other values."""
    if isinstance(value, tuple) and len(value) > 0 and isinstance(value[0], str):
        return value[0]
    return ""


def _kinds_of(word):
    """What stands behind a word in a row, None for a word of no row."""
    if word in CODE_ROWS:
        return CODE_ROWS[word]
    return DATA_ROWS.get(word)


def _fit(items, kinds):
    """Whether items are of kinds, one by one."""
    if len(items) != len(kinds):
        return False
    return all([_fits(item, kind) for item, kind in zip(items, kinds)])


def _fits(item, kind):
    if kind == "R":
        return is_register(item)
    if kind == "N":
        return is_name(item)
    least, most = BOUNDS[kind]
    return is_number(item, least, most)


def _read_item(text, kind):
    """The item with a text; what it gives may be no item of this kind."""
    if kind in BOUNDS:
        return read_number(text)
    return text

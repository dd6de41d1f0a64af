"""What a desk answers to lines about what lies on it."""

from leastimage.closure import needs_of
from leastimage.ends import told_end
from leastimage.errors import InvalidNeed
from leastimage.larger import outlook
from leastimage.needs import is_need
from leastimage.words import read_number

UNKNOWN = "unknown"
# How many words tell a need without a member; with one it has one word more.
NEED_SIZES = {"live": 3, "long": 4}


def words_in(line):
    """The words of a line, none for a value that is no line of words."""
    if not isinstance(line, str) or "\n" in line:
        return []
    words = line.split(" ")
    return [] if "" in words else words


def answer_to(table, words):
    """The answer to a line of these words."""
    if len(words) == 1 and words[0] in PLAIN_ANSWERS:
        tell = PLAIN_ANSWERS[words[0]]
        return tell(table)
    if len(words) == 2 and words[0] == "answer":
        return _key_told(table.kept_book.answer(words[1]))
    if len(words) > 1 and words[0] in NEED_ANSWERS:
        tell_need = NEED_ANSWERS[words[0]]
        return tell_need(table, _need_in(table.kept_book, words[1:]))
    return UNKNOWN


def _joined(words, without):
    """Words with spaces between, or what is told if there are none."""
    return " ".join([str(word) for word in words]) if len(words) > 0 else without


def _key_told(key):
    names = [] if key is None else [name for name in key if name != ""]
    return _joined(names, "none")


def _need_in(book, words):
    """The need of a book that is told by words."""
    items = list(words)
    if words[0] == "long":
        items[-1] = read_number(words[-1])
    if NEED_SIZES.get(words[0]) == len(words):
        # The empty member of a piece of an object is not told.
        items.insert(2, "")
    need = tuple(items)
    if not is_need(book, need):
        raise InvalidNeed(0)
    return need


def _units(table):
    return _joined([unit.name for unit in table.kept_book.units()], "none")


def _all_needs(table):
    return needs_of(table.kept_book, table.kept_roots, reach=table.kept_reach)


def _needs(table):
    return str(len(_all_needs(table)))


def _size(table):
    return str(table.linked_image().size)


def _out(table):
    return _joined(table.present_run().outputs(), "nothing")


def _end(table):
    return told_end(table.present_run().ended)


def _calls(table):
    return str(len(table.present_run().frames()))


def _needed(table, need):
    return "yes" if need in _all_needs(table) else "no"


def _outlook(table, need):
    return outlook(table.kept_book, table.kept_roots, need, reach=table.kept_reach)


PLAIN_ANSWERS = {
    "units": _units,
    "needs": _needs,
    "size": _size,
    "out": _out,
    "end": _end,
    "calls": _calls,
}
NEED_ANSWERS = {"needed": _needed, "outlook": _outlook}

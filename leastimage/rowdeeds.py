"""What the plain machine does at each row.

Each deed gives the word of the end, or the empty string if the run goes on. A
deed that ends the run changes nothing, but for the frame of a call that comes
to a stub without an answer.
"""

from leastimage.ends import MOST_FRAMES
from leastimage.values import address_in, difference, is_address, sum_of


def do_row(state):
    """Does the row at the place, which is left if the run goes on."""
    at, unit, member, piece, number, row = state.spot
    edition = state.versions[at, (unit, member, piece)].edition(number)
    told = edition.row_list[row]
    deed = DEEDS[told[0]]
    state.ahead = (at, unit, member, piece, number, row + 1)
    state.end = deed(state, told, edition.target_list[row])
    if state.end == "":
        state.spot = state.ahead


def _put(state, row, target):
    state.held[row[1]] = row[2]
    return ""


def _name(state, row, target):
    state.held[row[1]] = address_in(state.spot[0], target)
    return ""


def _add(state, row, target):
    return _become(state, row[1], sum_of(state.held[row[1]], state.held[row[2]]))


def _take(state, row, target):
    return _become(state, row[1], difference(state.held[row[1]], state.held[row[2]]))


def _become(state, name, value):
    """Puts a value into a register, unless nobody can tell it."""
    if value is None:
        return "seen"
    state.held[name] = value
    return ""


def _load(state, row, target):
    value = sum_of(state.held[row[2]], row[3])
    cells = state.data_at(value)
    if cells is None:
        return "outside"
    state.held[row[1]] = cells[value[2]]
    return ""


def _store(state, row, target):
    value = sum_of(state.held[row[2]], row[3])
    cells = state.data_at(value)
    if cells is None:
        return "outside"
    cells[value[2]] = state.held[row[1]]
    return ""


def _jump(state, row, target):
    return state.go_to(state.spot[0], target)


def _ifzero(state, row, target):
    value = state.held[row[1]]
    if is_address(value) and not state.is_in_place(value):
        return "seen"
    if value == 0:
        return state.go_to(state.spot[0], target)
    return ""


def _call(state, row, target):
    return _go_with_frame(state, state.spot[0], target)


def _callby(state, row, target):
    value = state.held[row[1]]
    found = state.code_at(value)
    if found is None:
        return "outside"
    return _go_with_frame(state, value[0], found)


def _go_with_frame(state, at, target):
    """Calls a target of an image."""
    if len(state.stack) == MOST_FRAMES:
        return "deep"
    state.stack.append(state.ahead)
    return state.go_to(at, target)


def _back(state, row, target):
    if len(state.stack) == 0:
        return "done"
    state.ahead = state.stack.pop()
    return ""


def _out(state, row, target):
    value = state.held[row[1]]
    if is_address(value):
        return "seen"
    state.printed.append(value)
    return ""


def _halt(state, row, target):
    return "halt"


def _room(state, row, target):
    return "room"


DEEDS = {
    "put": _put,
    "name": _name,
    "add": _add,
    "take": _take,
    "load": _load,
    "store": _store,
    "jump": _jump,
    "ifzero": _ifzero,
    "call": _call,
    "callby": _callby,
    "back": _back,
    "out": _out,
    "halt": _halt,
    "room": _room,
}

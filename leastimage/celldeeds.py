"""What the cell machine does at each cell.

Each deed gives the word of the end, or the empty string if the run goes on. A
deed that ends the run changes nothing.
"""

from leastimage.cells import parted
from leastimage.ends import MOST_FRAMES
from leastimage.forms import HIDDEN
from leastimage.halves import signed, wrapped


def do_cell(state):
    """Does the cell at the place, which is left if the run goes on."""
    cell = state.memory.get(state.spot)
    if cell is None:
        state.end = "outside"
        return
    word, r, s, part = parted(cell)
    deed = DEEDS[word]
    state.ahead = wrapped(state.spot + 1)
    state.end = deed(state, r, s, part)
    if state.end == "":
        state.spot = state.ahead


def _fault(state, r, s, part):
    return "room"


def _halt(state, r, s, part):
    return "halt"


def _high(state, r, s, part):
    state.held[r] = part * 256
    return ""


def _low(state, r, s, part):
    state.held[r] = wrapped(state.held[r] + signed(part))
    return ""


def _add(state, r, s, part):
    state.held[r] = wrapped(state.held[r] + state.held[s])
    return ""


def _take(state, r, s, part):
    state.held[r] = wrapped(state.held[r] - state.held[s])
    return ""


def _load(state, r, s, part):
    cell = state.memory.get(wrapped(state.held[s] + part))
    if cell is None:
        return "outside"
    state.held[r] = cell
    return ""


def _store(state, r, s, part):
    address = wrapped(state.held[s] + part)
    if address not in state.memory:
        return "outside"
    state.memory[address] = state.held[r]
    return ""


def _near_address(state, part):
    """The address that stands a signed part behind the present cell."""
    return wrapped(state.spot + signed(part))


def _jump(state, r, s, part):
    state.ahead = _near_address(state, part)
    return ""


def _ifzero(state, r, s, part):
    if state.held[r] == 0:
        state.ahead = _near_address(state, part)
    return ""


def _call(state, r, s, part):
    return _go_with_frame(state, _near_address(state, part))


def _near(state, r, s, part):
    state.held[r] = _near_address(state, part)
    return ""


def _jumpby(state, r, s, part):
    address = state.held[r]
    stub = state.stub_left_at(state.spot)
    if stub is not None and r == HIDDEN and address == 0:
        address = state.bind(*stub)
        if address is None:
            return "unbound"
    state.ahead = address
    return ""


def _callby(state, r, s, part):
    return _go_with_frame(state, state.held[r])


def _go_with_frame(state, address):
    """Calls an address."""
    if len(state.stack) == MOST_FRAMES:
        return "deep"
    state.stack.append(state.ahead)
    state.ahead = address
    return ""


def _back(state, r, s, part):
    if len(state.stack) == 0:
        return "done"
    state.ahead = state.stack.pop()
    return ""


def _out(state, r, s, part):
    state.printed.append(state.held[r])
    return ""


DEEDS = {
    "fault": _fault,
    "halt": _halt,
    "high": _high,
    "low": _low,
    "add": _add,
    "take": _take,
    "load": _load,
    "store": _store,
    "jump": _jump,
    "ifzero": _ifzero,
    "call": _call,
    "near": _near,
    "jumpby": _jumpby,
    "callby": _callby,
    "back": _back,
    "out": _out,
}

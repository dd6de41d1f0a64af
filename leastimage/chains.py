"""Steps and chains, and whether they are right."""

from leastimage.needs import check_reach, check_roots, is_bending, is_need
from leastimage.rules import is_long_for_data, keep_because
from leastimage.sequences import STARTS, Sequence
from leastimage.stretches import point_of
from leastimage.words import is_number


def is_step(book, roots, value, *, reach=40):
    """Whether any value is a right step."""
    check_roots(roots)
    check_reach(reach)
    return _is_right(book, roots, reach, value)


def is_chain(book, roots, value, *, reach=40):
    """Whether any value is a list or tuple that is a chain."""
    check_roots(roots)
    check_reach(reach)
    if not isinstance(value, (list, tuple)) or len(value) == 0:
        return False
    shown = {}
    for step in value:
        if not _is_right(book, roots, reach, step):
            return False
        if not all([need in shown for need in step[2]]):
            return False
        shown[step[0]] = True
    return True


def _is_right(book, roots, reach, value):
    """Whether any value is a right step for these roots and this reach."""
    if not isinstance(value, tuple) or len(value) != 4:
        return False
    need, rule, because, at = value
    if not is_need(book, need) or not _is_because(book, need, because):
        return False
    if rule == "root":
        return at is None and because == () and _is_root(book, roots, need)
    if rule == "keep":
        return at is None and _is_kept(book, need, because)
    if rule == "drawn":
        return at is None and _is_drawn(need, because)
    if rule == "data":
        return at is None and _is_for_data(book, need, because)
    if rule == "reference":
        return need[0] == "live" and need[1:] == _behind(book, because, at)
    if rule == "stub":
        return need[0] == "stub" and need == _target(book, because, at)
    return rule == "far" and _is_far(book, reach, value)


def _is_because(book, need, value):
    """Whether any value is an ascending tuple of needs other than one need."""
    if not isinstance(value, tuple) or not all([is_need(book, other) for other in value]):
        return False
    return need not in value and list(value) == sorted(set(value))


def _is_root(book, roots, need):
    return need[0] == "live" and need[1:] in [book.answer(root) for root in roots]


def _is_kept(book, need, because):
    if need[0] != "live" or not book.piece(need[1:]).keep:
        return False
    return because == keep_because(need[1:])


def _is_drawn(need, because):
    if need[0] != "drawn" or len(because) != 1:
        return False
    return because[0][0] == "live" and because[0][1:3] == need[1:]


def _is_for_data(book, need, because):
    if need[0] != "long" or because != (("live", *need[1:4]),):
        return False
    return is_long_for_data(book, need[1:])


def _place(book, because, at):
    """The place of the row at of the one live piece of because, None without it."""
    if len(because) != 1 or because[0][0] != "live":
        return None
    place = (*because[0][1:], at)
    return place if book.refers(place) else None


def _behind(book, because, at):
    place = _place(book, because, at)
    return None if place is None else book.behind(place)


def _target(book, because, at):
    place = _place(book, because, at)
    return None if place is None else book.target(place)


def _is_far(book, reach, step):
    """Whether a step of the rule far is right, whose needs are needs of the book."""
    need, _, because, start = step
    if need[0] != "long" or not is_number(start, 0, STARTS - 1):
        return False
    if not all([other[0] != "drawn" for other in because]):
        return False
    place = need[1:]
    sequence = Sequence(book, because)
    point = point_of(book.target(place))
    if not sequence.has_point(place) or not sequence.has_point(point):
        return False
    lower, higher = sequence.ends(place, point)
    return sequence.stretch_from(lower, higher, start) > reach

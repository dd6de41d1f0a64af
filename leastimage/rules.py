"""The rules that give needs, and the steps by which they give them."""

from leastimage.needs import is_bending, live_pieces
from leastimage.sequences import Sequence
from leastimage.stretches import point_of


def given_steps(book, roots, reach, needs):
    """The right steps that rest on needs of a set, by the needs that they give.

    The needs are those that some rule gives and that are not in the set, in
    ascending order.
    """
    held = {need: True for need in needs}
    steps = root_steps(book, roots) + keep_steps(book, held)
    for key in live_pieces(book, held):
        steps.extend(piece_steps(book, key))
    steps.extend(far_steps(book, reach, held))
    found = {}
    for step in steps:
        if step[0] not in held:
            found.setdefault(step[0], step)
    return {need: found[need] for need in sorted(found)}


def root_steps(book, roots):
    """The steps of the rule root."""
    keys = [book.answer(root) for root in roots]
    return [(("live", *key), "root", (), None) for key in keys if key is not None]


def keep_steps(book, held):
    """The steps of the rule keep from a dict with the needs of a set."""
    steps = []
    for key in book.ranked():
        because = keep_because(key)
        if book.piece(key).keep and all([need in held for need in because]):
            steps.append((("live", *key), "keep", because, None))
    return steps


def keep_because(key):
    """The needs from which the rule keep gives a kept piece."""
    if key[1] == "":
        return ()
    return (("drawn", *key[:2]),)


def piece_steps(book, key):
    """The steps that rest on a live piece alone."""
    because = (("live", *key),)
    steps = []
    if key[1] != "":
        steps.append((("drawn", *key[:2]), "drawn", because, None))
    for at in book.references(key):
        place = (*key, at)
        behind = book.behind(place)
        if behind is not None:
            steps.append((("live", *behind), "reference", because, at))
        if book.target(place)[0] == "stub":
            steps.append((book.target(place), "stub", because, at))
        if is_long_for_data(book, place):
            steps.append((("long", *place), "data", because, None))
    return steps


def is_long_for_data(book, place):
    """Whether the reference at a place is a row name whose target is data."""
    target = book.target(place)
    if book.row(place)[0] != "name" or target[0] != "piece":
        return False
    return book.piece(target[1:]).part == "data"


def far_steps(book, reach, held):
    """The steps of the rule far to needs that a dict with those of a set has not."""
    sequence = Sequence(book, held)
    steps = []
    for place in sequence.in_order():
        if is_bending(book, place) and ("long", *place) not in held:
            steps.extend(far_steps_at(book, reach, sequence, place))
    return steps


def far_steps_at(book, reach, sequence, place):
    """The step of the rule far for one reference, or none."""
    point = point_of(book.target(place))
    if not sequence.has_point(point):
        return []
    lower, higher = sequence.ends(place, point)
    start = sequence.far_start(lower, higher, reach)
    if start is None:
        return []
    because = tuple(sorted(sequence.needs_between(lower, higher)))
    return [(("long", *place), "far", because, start)]

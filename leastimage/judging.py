"""Sets of needs, and whether they are closed and least."""

from leastimage.closure import needs_of
from leastimage.needs import check_needs, check_reach, check_roots
from leastimage.rules import given_steps


def missing_step(book, roots, needs, *, reach=40):
    """A step from a set to a need that is not in it, None if the set is closed."""
    check_roots(roots)
    check_reach(reach)
    check_needs(book, needs)
    steps = list(given_steps(book, roots, reach, needs).values())
    return steps[0] if len(steps) > 0 else None


def is_closed(book, roots, needs, *, reach=40):
    """Whether each need that a rule gives from needs of a set is in the set."""
    return missing_step(book, roots, needs, reach=reach) is None


def judge(book, roots, needs, *, reach=40):
    """What a set of needs is, with a step or a need that shows it."""
    step = missing_step(book, roots, needs, reach=reach)
    if step is not None:
        return "open", step
    least = {need: True for need in needs_of(book, roots, reach=reach)}
    needless = [need for need in needs if need not in least]
    if len(needless) > 0:
        return "needless", min(needless)
    return "least", None

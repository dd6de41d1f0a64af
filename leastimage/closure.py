"""Sets of needs that grow by the rules, and the least set of a book."""

from leastimage.errors import NotLarger, NotReady, UnknownNeed
from leastimage.growing import grows
from leastimage.needs import check_reach, check_roots, is_need
from leastimage.rules import given_steps


class Closure:
    """A set of needs that grows, with a step for each, empty at first."""

    def __init__(self, book, roots, *, reach=40):
        check_roots(roots)
        check_reach(reach)
        self._book = book
        self._reach = reach
        self._roots = list(roots)
        self._steps = {}
        self._next = given_steps(book, roots, reach, [])

    @property
    def book(self):
        """The book."""
        return self._book

    @property
    def reach(self):
        """The reach."""
        return self._reach

    def roots(self):
        """The list of the roots."""
        return list(self._roots)

    def ready(self):
        """The ascending list of the needs that can be added now."""
        return list(self._next)

    def add(self, need):
        """Adds one of the needs that are ready."""
        if not is_need(self.book, need) or need not in self._next:
            raise NotReady(need)
        self._take([self._next[need]])

    def finish(self):
        """Adds needs until none is ready."""
        while len(self._next) > 0:
            self._take(list(self._next.values()))

    @property
    def finished(self):
        """Whether no need is ready."""
        return len(self._next) == 0

    def needs(self):
        """The ascending list of the set."""
        return sorted(self._steps)

    def reason(self, need):
        """A step for a need of the set, which rests on needs that came earlier."""
        if need not in self:
            raise UnknownNeed(need)
        return self._steps[need]

    def chain(self, need):
        """A chain that ends at a need of the set."""
        steps = []
        wanted = {self.reason(need)[0]: True}
        for step in list(self._steps.values())[::-1]:
            if step[0] in wanted:
                steps.append(step)
                wanted.update({other: True for other in step[2]})
        return steps[::-1]

    def walk(self):
        """The steps of all needs of the set, in the order in which they came."""
        for step in list(self._steps.values()):
            yield step

    def widened(self, book):
        """A closure for a larger book that begins with the set of this one."""
        if not grows(book, self.book):
            raise NotLarger()
        wider = Closure(book, self._roots, reach=self.reach)
        # The steps of a book are right in each larger one.
        wider._take(list(self._steps.values()))
        return wider

    def twin(self):
        """An independent closure in the same state."""
        return self.widened(self.book)

    def __contains__(self, value):
        return is_need(self.book, value) and value in self._steps

    def __len__(self):
        return len(self._steps)

    def __bool__(self):
        return True

    def __repr__(self):
        return f"Closure({len(self._steps)} needs)"

    def _take(self, steps):
        """Adds the needs of some steps, and looks what is ready then."""
        for step in steps:
            self._steps[step[0]] = step
        self._next = given_steps(self.book, self._roots, self.reach, list(self._steps))


def needs_of(book, roots, *, reach=40):
    """The ascending list of the needs of a book."""
    closure = Closure(book, roots, reach=reach)
    closure.finish()
    return closure.needs()

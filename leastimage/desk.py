"""Desks, which keep a book and a run, with their history."""

from leastimage.answers import answer_to, words_in
from leastimage.deeds import Table, table_behind
from leastimage.errors import ImageError, NothingLeft


class Desk:
    """A book, roots, a reach, a page and at most one run, and what was done."""

    def __init__(self):
        self._table = Table()
        self._past = []
        self._future = []
        self._log_pairs = []
        self._busy = False

    @property
    def book(self):
        """The book."""
        return self._table.kept_book

    @property
    def reach(self):
        """The reach."""
        return self._table.kept_reach

    @property
    def page(self):
        """The page."""
        return self._table.kept_page

    @property
    def busy(self):
        """Whether deeds are being done."""
        return self._busy

    def roots(self):
        """The list of the roots."""
        return list(self._table.kept_roots)

    def held_run(self):
        """A twin of the run, None without one."""
        if self._table.kept_run is None:
            return None
        return self._table.kept_run.twin()

    def image(self):
        """The image that link gives."""
        return self._table.linked_image()

    def do(self, *deeds):
        """Does all these deeds, or none; they are one step of the history."""
        table = self._behind(deeds)
        if len(deeds) > 0:
            self._past.append(self._table)
            self._future = []
            self._table = table

    def undo(self):
        """Takes the last step back."""
        if len(self._past) == 0:
            raise NothingLeft()
        self._future.append(self._table)
        self._table = self._past.pop()

    def redo(self):
        """Does the step again that was taken back last."""
        if len(self._future) == 0:
            raise NothingLeft()
        self._past.append(self._table)
        self._table = self._future.pop()

    def history(self):
        """How many steps can be undone, and redone."""
        return len(self._past), len(self._future)

    def tried(self, *deeds):
        """The text that the desk would have behind these deeds."""
        return text_of(self._behind(deeds))

    def text(self):
        """The text of the book, the roots, the reach and the page."""
        return text_of(self._table)

    def say(self, line):
        """The answer to a line."""
        answer = self._answer(words_in(line))
        self._log_pairs.append((line, answer))
        return answer

    def log(self):
        """The list of the pairs of a line and its answer."""
        return list(self._log_pairs)

    def twin(self):
        """An independent desk in the same state."""
        other = Desk()
        # Tables never change once they lie on a desk, so they can be shared.
        other._table = self._table
        other._past = list(self._past)
        other._future = list(self._future)
        other._log_pairs = list(self._log_pairs)
        return other

    def __call__(self, line):
        return self.say(line)

    def __eq__(self, other):
        return (
            isinstance(other, Desk)
            and self.book == other.book
            and self.roots() == other.roots()
            and self.reach == other.reach
            and self.page == other.page
        )

    def __len__(self):
        return len(self._table.kept_book)

    def __bool__(self):
        return True

    def __repr__(self):
        return f"Desk({len(self._table.kept_book)} units)"

    def _behind(self, deeds):
        """The table as it is behind some deeds."""
        self._busy = True
        try:
            return table_behind(self._table, deeds)
        finally:
            self._busy = False

    def _answer(self, words):
        """The answer to a line of these words."""
        try:
            if words == ["undo"]:
                self.undo()
                return "done"
            if words == ["redo"]:
                self.redo()
                return "done"
            return answer_to(self._table, words)
        except (ImageError, NothingLeft) as error:
            return f"error {error.code}"


def text_of(table):
    """The text of a desk on which a table lies."""
    roots = " ".join(table.kept_roots)
    return f"{table.kept_book.text()}roots {roots}\nreach {table.kept_reach}\npage {table.kept_page}\n"


def desk_with(table):
    """A desk on which a table lies, without history."""
    desk = Desk()
    desk._table = table
    return desk

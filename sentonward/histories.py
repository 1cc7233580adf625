"""What a site remembers: its book, what can be undone and redone, the active blocks, and a log."""

from sentonward.books import Book


class History:
    """The current book of a site, and the tuples of the rules of those before it and of those to redo.

    The current book is never changed; an edit puts a new one in its place.
    """

    def __init__(self, book):
        self.held = book
        # The oldest book stands first in past, the next one first in future.
        self.past = ()
        self.future = ()
        self.level = 0
        self.entries = []

    def note(self, *entry):
        """Append an entry to the log."""
        self.entries.append(entry)

    def change(self, book):
        """Put a book in the place of the current one, as an edit."""
        if self.level == 0:
            self.past = (*self.past, self.held.rules)
            self.future = ()
        self.held = book
        self.note("edit", len(book))

    def go_back(self, count):
        """Undo so many edits."""
        self.stand(len(self.past) - count)
        self.note("undo", count)

    def go_forth(self, count):
        """Redo so many edits."""
        self.stand(len(self.past) + count)
        self.note("redo", count)

    def stand(self, at):
        """Take the place with an index among all books, from the oldest one to the last one to redo."""
        line = (*self.past, self.held.rules, *self.future)
        rules = line[at]
        self.past = line[:at]
        self.held = Book(*rules)
        self.future = line[at + 1:]


class Trial:
    """One block of edits of a site, which are one edit if the block is kept, and are taken back otherwise."""

    def __init__(self, site, history):
        self._site = site
        self._history = history
        self._log = history.entries
        # The end of the block only asks whether it is None.
        self._kept = None

    def keep(self):
        """Let the edits of the block stand, unless an exception leaves it."""
        self._kept = True

    def __enter__(self):
        # No edit in a block touches past and future, so what a kept one leaves there is known now.
        history = self._history
        self._before = history.held
        self._level = history.level
        self._past = history.past
        self._future = history.future
        if self._level == 0:
            self._past = (*history.past, history.held.rules)
            self._future = ()
        history.level = self._level + 1
        return self._site

    def __exit__(self, kind, value, trace):
        if kind is None and self._kept is not None:
            self._history.past = self._past
            self._history.future = self._future
            self._log.append(("trial", True))
        else:
            self._history.held = self._before
            self._log.append(("trial", False))
        self._history.level = self._level

"""What a site remembers: its book, what can be undone and redone, the active blocks, and a log."""


class History:
    """The books of a site: the current one, those before it, and those that can be redone.

    Books that stand here are never changed; an edit puts a new one in their place.
    """

    def __init__(self, book):
        self.held = book
        # The oldest one stands first in past, the next one first in future.
        self.past = ()
        self.future = ()
        self.level = 0
        self.entries = []

    def note(self, *entry):
        """Append an entry to the log."""
        self.entries.append(entry)

    def change(self, book):
        """Put a book in the place of the current one, as an edit."""
        if self.level == 0:
            self.past = (*self.past, self.held)
            self.future = ()
        self.held = book
        self.note("edit", len(book))

    def go_back(self, count):
        """Undo so many edits."""
        line = (*self.past, self.held, *self.future)
        self.stand(line, len(self.past) - count)
        self.note("undo", count)

    def go_forth(self, count):
        """Redo so many edits."""
        line = (*self.past, self.held, *self.future)
        self.stand(line, len(self.past) + count)
        self.note("redo", count)

    def stand(self, line, at):
        """Take the place with an index in a line of books."""
        self.past = line[:at]
        self.held = line[at]
        self.future = line[at + 1:]


class Trial:
    """One block of edits of a site, which are one edit if the block is kept, and are taken back otherwise."""

    def __init__(self, site, history):
        self._site = site
        self._history = history
        self._log = history.entries
        self._is_kept = False

    def keep(self):
        """Let the edits of the block stand, unless an exception leaves it."""
        self._is_kept = True

    def __enter__(self):
        history = self._history
        self._before = history.held
        self._level = history.level
        self._past = history.past
        self._future = history.future
        if self._level == 0:
            self._past = (*history.past, history.held)
            self._future = ()
        history.level = self._level + 1
        return self._site

    def __exit__(self, kind, value, trace):
        if kind is None and self._is_kept:
            self._history.past = self._past
            self._history.future = self._future
            self._log.append(("trial", True))
        else:
            self._history.held = self._before
            self._log.append(("trial", False))
        self._history.level = self._level

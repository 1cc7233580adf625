"""Sites: books that are edited while their guards hold: [50]."""

from sentonward.books import Book
from sentonward.ends import last_of, never_settles
from sentonward.errors import Broken, GoesOn, InTrial, NotABook, NotAWish, OutOfRange, TooFar, Unsettled
from sentonward.histories import History, Trial
from sentonward.kinds import is_index, is_integer
from sentonward.longest import beyond
from sentonward.wishes import Wish

MOST_STEPS = 100


def check_settling(book):
    """Raise an error with a shortest address that never settles, if there is one."""
    address = never_settles(book)
    if address is not None:
        try:
            last_of(book, address)
        except Unsettled as error:
            raise GoesOn(address) from error


def check_guards(book, wishes, most):
    """Raise an error for the first guard of a site that a book does not keep."""
    check_settling(book)
    address = None if most is None else beyond(book, most)
    if address is not None:
        raise TooFar(address)
    for index, wish in enumerate(wishes):
        if wish.broken(book) is not None:
            raise Broken(index)


def check_count(count, many):
    """Raise an error for any value that is not an integer from 1 to so many."""
    if not is_integer(count) or not 1 <= count <= many:
        raise OutOfRange(count)


class Site:
    """A book that can be edited, undone and tried, while all its guards hold."""

    def __init__(self, book, *wishes, most=None):
        if not isinstance(book, Book):
            raise NotABook(0)
        for index, wish in enumerate(wishes):
            if not isinstance(wish, Wish):
                raise NotAWish(index)
        if most is not None and not is_index(most, MOST_STEPS + 1):
            raise OutOfRange(most)
        self._wishes = wishes
        self._most = most
        self._history = History(book.copied())
        self.guard(self._history.held)

    @classmethod
    def of(cls, book, wishes, most=None):
        """Return the site of a book and a list of wishes."""
        return cls(book, *wishes, most=most)

    def guard(self, book):
        """Raise an error if a book does not keep the guards."""
        check_guards(book, self._wishes, self._most)

    def change(self, book):
        """Put an edited book in the place of the current one, if it keeps the guards."""
        self.guard(book)
        self._history.change(book)

    @property
    def book(self):
        """A copy of the book."""
        return self._history.held.copied()

    @property
    def wishes(self):
        """The tuple of the wishes."""
        return self._wishes

    @property
    def most(self):
        """The most steps that a run may take, or None."""
        return self._most

    @property
    def rules(self):
        """The tuple of the rules."""
        return self._history.held.rules

    @rules.setter
    def rules(self, value):
        self.set_rules(value)

    def set_rules(self, rules):
        """Put a list of rules in the place of all rules."""
        book = self.book
        book.set_rules(rules)
        self.change(book)

    def __len__(self):
        return len(self._history.held)

    def __contains__(self, x):
        return x in self._history.held

    def __getitem__(self, at):
        return self._history.held[at]

    # Without it, Python would iterate over the items by their indexes.
    def __iter__(self):
        raise TypeError("a site is not iterated over")

    def __setitem__(self, at, worth):
        book = self.book
        book[at] = worth
        self.change(book)

    def take(self, index):
        """Remove the rule with this index."""
        book = self.book
        book.take(index)
        self.change(book)

    def insert(self, index, rule):
        """Insert a rule before the rule with this index, or at the end."""
        book = self.book
        book.insert(index, rule)
        self.change(book)

    def __ior__(self, other):
        book = self.book
        book |= other
        self.change(book)
        return self

    def __call__(self, address):
        """Return the end of an address."""
        return last_of(self._history.held, address)

    @property
    def undoable(self):
        """The number of edits that can be undone."""
        return len(self._history.past)

    @property
    def redoable(self):
        """The number of edits that can be redone."""
        return len(self._history.future)

    def undo(self, count=1):
        """Undo so many edits."""
        if self._history.level > 0:
            raise InTrial()
        check_count(count, self.undoable)
        self._history.go_back(count)

    def redo(self, count=1):
        """Redo so many edits."""
        if self._history.level > 0:
            raise InTrial()
        check_count(count, self.redoable)
        self._history.go_forth(count)

    def editions(self):
        """Yield copies of the books that undo leads back to, the oldest first, and of the current one."""
        every = [*self._history.past, self._history.held.rules]
        for rules in every:
            yield Book(*rules)

    def trial(self):
        """Return an object for one block, whose edits are taken back at its end unless it is kept."""
        return Trial(self, self._history)

    def attempt(self, action):
        """Call an action with the site in a block that is kept, and return its result."""
        block = self.trial()
        block.keep()
        with block as site:
            return action(site)

    def tried(self, action):
        """Call an action with the site in a block that is not kept, and return its result."""
        with self.trial() as site:
            return action(site)

    @property
    def depth(self):
        """The number of active blocks."""
        return self._history.level


class LoggedSite(Site):
    """A site that tells all its successful actions."""

    def __init__(self, book, *wishes, most=None):
        Site.__init__(self, book, *wishes, most=most)

    @classmethod
    def of(cls, book, wishes, most=None):
        """Return the logged site of a book and a list of wishes."""
        return cls(book, *wishes, most=most)

    @property
    def log(self):
        """The tuple of all successful actions, in order."""
        return tuple(self._history.entries)


class FreeSite(Site):
    """A site without guards."""

    def __init__(self, book):
        Site.__init__(self, book)

    def guard(self, book):
        """Let any book pass."""

    def __call__(self, address):
        """Return the end of an address, or raise an error if it never settles."""
        return last_of(self._history.held, address)


class LoggedFreeSite(LoggedSite, FreeSite):
    """A site without guards that tells all its successful actions."""

    def __init__(self, book):
        FreeSite.__init__(self, book)

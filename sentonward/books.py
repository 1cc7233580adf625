"""Books of rules, and chains of books."""

from sentonward.errors import InvalidText, NotABook, NotARule, OutOfRange, TooFew, TooMany
from sentonward.kinds import is_index
from sentonward.limits import RULES, STATES, WORDS
from sentonward.readings import Reader
from sentonward.rules import Rule, parsed

FEWEST_BOOKS = 2
MOST_BOOKS = 4


def states_of(rules):
    """Return the ascending tuple of the states of rules and their goals."""
    states = [rule.state for rule in rules]
    goals = [rule.goal[0] for rule in rules if rule.goal is not None]
    return tuple(sorted(set(states + goals)))


def words_of(rules):
    """Return the ascending tuple of the named words of rules."""
    return tuple(sorted(set([word for rule in rules for word in rule.words])))


def checked(rules):
    """Return the tuple of values that are the rules of a book; raise an error for any others."""
    for index, rule in enumerate(rules):
        if not isinstance(rule, Rule):
            raise NotARule(index)
    if len(rules) > RULES:
        raise TooMany(RULES)
    if len(states_of(rules)) > STATES:
        raise TooMany(STATES)
    if len(words_of(rules)) > WORDS:
        raise TooMany(WORDS)
    return tuple(rules)


def next_address(rules, address):
    """Return the address to which the first rule that fits sends an address, None if it settles at once."""
    for rule in rules:
        if rule.fits(address):
            return None if rule.goal is None else rule(address)
    return None


class Book:
    """A list of rules, of which the first one that fits applies."""

    def __init__(self, *rules):
        self._rules = checked(rules)
        # The reader keeps what it has found out, so it is made when it is first asked for.
        self._reader = None

    @classmethod
    def of(cls, rules):
        """Return the book of a list of rules."""
        return cls(*rules)

    @property
    def rules(self):
        """The tuple of the rules."""
        return self._rules

    @rules.setter
    def rules(self, value):
        self.set_rules(value)

    def set_rules(self, rules):
        """Put a list of rules in the place of all rules."""
        if not isinstance(rules, (list, tuple)):
            raise NotARule(-1)
        self._rules = checked(rules)
        self._reader = None

    @property
    def states(self):
        """The ascending tuple of the states of rules and goals."""
        return states_of(self._rules)

    @property
    def words(self):
        """The ascending tuple of the named words."""
        return words_of(self._rules)

    def reader(self):
        """Return what reads paths for the rules as they are now."""
        if self._reader is None:
            self._reader = Reader(self._rules)
        return self._reader

    def __len__(self):
        return len(self._rules)

    def __contains__(self, x):
        return x in self._rules

    def __getitem__(self, at):
        if not is_index(at, len(self._rules)):
            raise OutOfRange(at)
        return self._rules[at]

    # Without it, Python would iterate over the items by their indexes.
    def __iter__(self):
        raise TypeError("a book is not iterated over")

    def __setitem__(self, at, worth):
        if not is_index(at, len(self._rules)):
            raise OutOfRange(at)
        self.set_rules((*self._rules[:at], worth, *self._rules[at + 1:]))

    def take(self, index):
        """Remove the rule with this index."""
        if not is_index(index, len(self._rules)):
            raise OutOfRange(index)
        self.set_rules(self._rules[:index] + self._rules[index + 1:])

    def insert(self, index, rule):
        """Insert a rule before the rule with this index, or at the end."""
        if not is_index(index, len(self._rules) + 1):
            raise OutOfRange(index)
        self.set_rules((*self._rules[:index], rule, *self._rules[index:]))

    def without(self, *indexes):
        """Return a new book without the rules with these indexes."""
        gone = {}
        for index in indexes:
            if not is_index(index, len(self._rules)) or index in gone:
                raise OutOfRange(index)
            gone[index] = True
        rules = [rule for index, rule in enumerate(self._rules) if index not in gone]
        return Book(*rules)

    def copied(self):
        """Return a new book with the same rules."""
        return Book(*self._rules)

    def __eq__(self, other):
        if not isinstance(other, Book):
            return NotImplemented
        return self._rules == other._rules

    # What is no rule is refused by the new list of rules.
    def __or__(self, other):
        rules = self._rules + rules_of(other)
        return Book(*rules)

    def __ror__(self, other):
        return Book(other, *self._rules)

    def __ior__(self, other):
        self.set_rules(self._rules + rules_of(other))
        return self

    def __add__(self, other):
        if not isinstance(other, (Book, Chain)):
            return NotImplemented
        books = [self, *parts_of(other)]
        return Chain(*books)

    def first(self, address):
        """Return the index of the first rule that fits an address, or None."""
        for index, rule in enumerate(self._rules):
            if rule.fits(address):
                return index
        return None

    def after(self, address):
        """Return the next address, or None if the address settles at once."""
        return next_address(self._rules, address)

    def walk(self, address):
        """Yield the addresses of the run of an address."""
        rules = self._rules
        while address is not None:
            yield address
            address = next_address(rules, address)

    def text(self):
        """Return the texts of the rules, joined by newlines."""
        return "\n".join([rule.text() for rule in self._rules])

    @classmethod
    def read(cls, text):
        """Return the book with this text."""
        if not isinstance(text, str):
            raise InvalidText(0)
        lines = text.split("\n") if text != "" else []
        for index, line in enumerate(lines):
            if parsed(line, False) is None:
                raise InvalidText(index)
        rules = [Rule.read(line) for line in lines]
        return cls(*rules)


class Chain:
    """Two to four books, each of which settles the ends of the one before; it never changes."""

    def __init__(self, *books):
        for index, book in enumerate(books):
            if not isinstance(book, Book):
                raise NotABook(index)
        if len(books) > MOST_BOOKS:
            raise TooMany(MOST_BOOKS)
        if len(books) < FEWEST_BOOKS:
            raise TooFew(FEWEST_BOOKS)
        self._parts = [book.copied() for book in books]

    @classmethod
    def of(cls, books):
        """Return the chain of a list of books."""
        return cls(*books)

    @property
    def books(self):
        """A new list of copies of the books."""
        return [part.copied() for part in self._parts]

    @property
    def states(self):
        """The ascending tuple of the states of all books."""
        return tuple(sorted(set([state for part in self._parts for state in part.states])))

    @property
    def words(self):
        """The ascending tuple of the named words of all books."""
        return tuple(sorted(set([word for part in self._parts for word in part.words])))

    def __eq__(self, other):
        if not isinstance(other, Chain):
            return NotImplemented
        return self._parts == other._parts

    def __add__(self, other):
        if not isinstance(other, (Book, Chain)):
            return NotImplemented
        books = self._parts + parts_of(other)
        return Chain(*books)


def rules_of(other):
    """Return the tuple of the rules of a book, or of a rule alone."""
    return other.rules if isinstance(other, Book) else (other,)


def parts_of(system):
    """Return a list of the books of a system."""
    return [system] if isinstance(system, Book) else list(system._parts)

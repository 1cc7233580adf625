"""A plain model of sites, with which the tests compare them: rules, what can be undone and redone, and a log."""

from sentonward.books import Book
from sentonward.ends import never_settles
from sentonward.errors import Broken, GoesOn, InTrial, OutOfRange, TooFar
from sentonward.longest import beyond


class Model:
    """What a site is, as lists of tuples of rules; edits are functions that change a book."""

    def __init__(self, rules, wishes=(), most=None, is_free=False):
        self.rules = tuple(rules)
        self.wishes, self.most, self.is_free = wishes, most, is_free
        self.past, self.future, self.log, self.depth = [], [], [], 0

    def refusal(self, change):
        """Return the rules after a change, and the class and the fields of the error that is due, or None."""
        book = Book.of(self.rules)
        try:
            change(book)
        except Exception as error:
            return None, (type(error), vars(error))
        if not self.is_free:
            address = never_settles(book)
            if address is not None:
                return None, (GoesOn, {"address": len(address)})
            address = None if self.most is None else beyond(book, self.most)
            if address is not None:
                return None, (TooFar, {"address": len(address)})
            for index, wish in enumerate(self.wishes):
                if wish.broken(book) is not None:
                    return None, (Broken, {"index": index})
        return book.rules, None

    def edit(self, change):
        """Change the rules; return the error that is due instead, or None."""
        rules, error = self.refusal(change)
        if error is None:
            if self.depth == 0:
                self.past.append(self.rules)
                self.future = []
            self.rules = rules
            self.log.append(("edit", len(rules)))
        return error

    def move(self, name, count):
        """Undo or redo; return the error that is due instead, or None."""
        if self.depth > 0:
            return InTrial, {}
        source, target = (self.past, self.future) if name == "undo" else (self.future, self.past)
        if type(count) is not int or not 1 <= count <= len(source):
            return OutOfRange, {"value": count}
        for _ in range(count):
            target.append(self.rules)
            self.rules = source.pop()
        self.log.append((name, count))
        return None

    def begin(self):
        """Begin a block; return what its end needs."""
        self.depth += 1
        return self.rules, list(self.past), list(self.future)

    def end(self, before, is_kept):
        """End a block."""
        self.depth -= 1
        if not is_kept:
            self.rules, self.past, self.future = before
        elif self.depth == 0:
            self.past.append(before[0])
            self.future = []
        self.log.append(("trial", is_kept))

    def seen(self):
        """Return what a site shows of itself."""
        return self.rules, len(self.past), len(self.future), [*self.past, self.rules], self.depth


def shown(site):
    """Return the same of a site."""
    return site.rules, site.undoable, site.redoable, [book.rules for book in site.editions()], site.depth


def fields_of(error):
    """Return the class and the fields of an error, with numbers of segments for the addresses of guards."""
    told = dict(vars(error))
    if isinstance(error, (GoesOn, TooFar)):
        told["address"] = len(told["address"])
    return type(error), told

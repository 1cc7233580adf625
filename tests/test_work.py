"""How much is worked out: no row twice for one answer, and none where the rules alone tell it."""

import unittest
from unittest import mock

from sentonward.addresses import Address
from sentonward.books import Book, Chain
from sentonward.ends import never_settles
from sentonward.errors import Barred, TooMany, Unsettled
from sentonward.flat import FlatRule, flat, is_flat
from sentonward.longest import beyond, longest, most_steps
from sentonward.readings import Reader
from sentonward.rules import Rule
from sentonward.sites import Site
from sentonward.sources import Net, grouped, source_count
from sentonward.tables import table
from tests.drawn import DROP, book, drawn_book, drawn_chain
from tests.test_ends import GROWING, TURNING

SYSTEMS = [drawn_book(f"work {seed}", 3, 2, 4) for seed in range(50)] + [
    drawn_chain(f"work {seed}", books, 2, 1, 3) for seed in range(15) for books in (2, 3)
]

EIGHT = list("abcdefgh")
FOLDED = Book(Rule("s", (1, 1), ("t", ("a",))))


def anew(system):
    """Return a new system with the same rules, of which nothing has been found out."""
    if isinstance(system, Chain):
        return Chain.of([Book.of(one.rules) for one in system.books])
    return Book.of(system.rules)


def worked(action):
    """Return how many readers an action makes, and the list of the rows that are begun, each with its reader."""
    readers, told = [], []
    make, opened = Reader.__init__, Reader.opened

    def made(self, rules):
        readers.append(self)
        make(self, rules)

    def begun(self, row):
        told.append((id(self), row))
        return opened(self, row)

    with mock.patch.object(Reader, "__init__", made), mock.patch.object(Reader, "opened", begun):
        action()
    return len(readers), told


class WorkTest(unittest.TestCase):

    def assert_once(self, system, action):
        """An action makes at most one reader of each book, and begins no row twice; return the rows."""
        system = anew(system)
        readers, told = worked(lambda: action(system))
        self.assertLessEqual(readers, len(getattr(system, "books", [system])))
        self.assertEqual(len(told), len(set(told)))
        return told

    def test_each_row_once(self):
        found = 0
        for system in SYSTEMS:
            for action in (never_settles, lambda one: most_steps(one, 5), lambda one: beyond(one, 3),
                           lambda one: source_count(one, Address("s", ["a"]), "s", EIGHT, 20), lambda one: is_flat(one, [])):
                found += len(self.assert_once(system, action))
        for system in SYSTEMS[:20]:
            found += len(self.assert_once(system, table))
        self.assertGreater(found, 1000)

    def test_flat_lists_and_longest_runs(self):
        found = 0
        for system in SYSTEMS:
            try:
                told = flat(system)
            except (Unsettled, Barred, TooMany):
                continue
            found += 1
            rows = self.assert_once(system, flat)
            # The list is checked with what is asked to make it, and so are the longest runs told.
            for action in (lambda one: is_flat(one, told), longest):
                self.assertEqual([row for _, row in self.assert_once(system, action)], [row for _, row in rows])
        self.assertGreater(found, 10)

    def test_a_flat_list_of_one_rule(self):
        for action in (flat, lambda one: is_flat(one, [FlatRule("s", (3, 3), ("t", ("a",)))])):
            # One row for each way in which none, one, two and three segments are equal or named.
            self.assertLessEqual(len(self.assert_once(FOLDED, action)), 1 + 2 + 5 + 15)

    def test_edits_where_no_rule_leads_back(self):
        def edits():
            site = Site(Book(Rule("s", ("a",), ("t", ()))))
            site.insert(1, Rule("w", ("a",), ("t", ())))
            site.insert(0, Rule("v", ("a",), ("t", ())))
            site.undo()
        self.assertEqual(worked(edits)[1], [])
        for one in (Book(), DROP, DROP + DROP, book("s /1/.. to s /..", "t /1/2/.. to s /1/..")):
            self.assertEqual(self.assert_once(one, never_settles), [])
        for one in (GROWING, TURNING, DROP + TURNING):
            self.assertNotEqual(self.assert_once(one, never_settles), [])

    def test_counts_of_long_sources(self):
        one = book("s /1/2/.. to s /1/..")
        net = Net(one, Address("s", ["a"]), "s", EIGHT, ())
        # Of the words that nothing names only few are told apart: those in hand, and one more.
        self.assertLessEqual(len(net.moves), 8)
        self.assertLessEqual(len(grouped(net)[1]), 3)
        rows = self.assert_once(one, lambda system: source_count(system, Address("s", ["a"]), "s", EIGHT, 200))
        self.assertLessEqual(len(rows), 20)


if __name__ == "__main__":
    unittest.main()

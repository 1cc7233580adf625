"""Tables: [24] and the interface of tables.py."""

import inspect
import unittest

from sentonward import tables
from sentonward.books import Book
from sentonward.tables import asked, is_table, rows, table, value_of
from tests.drawn import DROP, book, drawn_book
from tests.values import NO_WORDS, nested

# A word becomes two of the next word, in 35 levels that two words count.
LEVELS = book(
    "s /1/a/.. to s /1/b/1/b/..", "s /1/b/.. to s /1/c/1/c/..", "s /1/c/.. to s /1/d/1/d/..",
    "s /1/d/.. to s /1/e/1/e/..", "s /1/e/.. to s /1/f/1/f/..", "s /a/f/.. to s /b/a/b/a/..",
    "s /b/f/.. to s /c/a/c/a/..", "s /c/f/.. to s /d/a/d/a/..", "s /d/f/.. to s /e/a/e/a/..",
    "s /e/f/.. to s /f/a/f/a/..", "s /f/f/.. to s /..",
)

# A row asks one that asks another one, and then one that asks none.
MIXED = book("s /a/1/.. to t /b/1/c/c/..", "t /b/1/.. to t /c/1/..", "t /c/1/.. to t /1/..")

BOOKS = [drawn_book(seed) for seed in range(25)] + [drawn_book(seed, 4, 4, 12) for seed in range(3)] + [
    MIXED, DROP, Book(), book("s /.. stays"), book("s /1/.. to s /1/.."), book("s /1/2/.. to s /2/1/.."),
]

# Those with few rows, for what is tried for each row.
SMALL = [one for one in BOOKS if len(rows(one)) < 40]


def changed(told, row, entry):
    """Return a copy of a table with another entry for a row."""
    made = dict(told)
    made[row] = entry
    return made


class TableTest(unittest.TestCase):

    def test_keys_and_values(self):
        for one in BOOKS:
            told = table(one)
            self.assertIs(type(told), dict)
            self.assertEqual(list(told), rows(one))
            for row, entry in told.items():
                self.assertIs(type(entry), tuple)
                value, rank = entry
                self.assertEqual(value, value_of(one, row))
                ranks = [told[each][1] for each in asked(one, row)]
                if value == ("never",):
                    self.assertIsNone(rank)
                    self.assertIsNone(ranks[-1])
                else:
                    self.assertIs(type(rank), int)
                    self.assertGreaterEqual(rank, 0)
                    self.assertTrue(all(each < rank for each in ranks))
            self.assertIs(is_table(one, told), True)

    def test_by_hand(self):
        self.assertEqual(table(Book()), {})
        self.assertEqual(table(book=book("s /1/.. to s /..")), {
            ("s", (), None): (("settled", "s", (), 0), 0), ("s", (1,), None): (("settled", "s", (), 1), 1),
            ("s", (1, 1), 1): (("on", "s", (1, 1), 1), 0), ("s", (1, 1), 2): (("on", "s", (1, 2), 1), 0),
            ("s", (1, 1), None): (("settled", "s", (), 2), 2), ("s", (1, 2), 1): (("on", "s", (2, 1), 1), 0),
            ("s", (1, 2), 2): (("on", "s", (2, 2), 1), 0), ("s", (1, 2), 3): (("on", "s", (2, 3), 1), 0),
            ("s", (1, 2), None): (("settled", "s", (), 2), 2),
        })

    def test_ranks_are_greater_than_those_of_all_rows_that_are_asked(self):
        row, first, last = ("s", ("a", 1), 2), ("t", ("b", 1), "c"), ("t", (1, "c"), "c")
        told = table(MIXED)
        self.assertEqual(asked(MIXED, row), [first, last])
        self.assertEqual(told[row][0], ("settled", "t", (1, "c", "c", 2), 3))
        self.assertGreater(told[row][1], told[first][1])
        self.assertGreater(told[first][1], told[("t", ("c", 1), "c")][1])
        self.assertIs(is_table(MIXED, changed(told, row, (told[row][0], told[first][1]))), False)
        self.assertIs(is_table(MIXED, changed(told, last, (told[last][0], told[row][1]))), False)

    def test_tables_are_new(self):
        table(DROP).clear()
        self.assertEqual(len(table(DROP)), 9)

    def test_equal_books_have_equal_tables(self):
        for one in BOOKS:
            other = one.copied()
            for row in reversed(rows(other)):
                value_of(other, row)
            self.assertEqual(table(other), table(one))

    def test_steps_of_many_levels(self):
        told = table(LEVELS)
        # Each level takes one step, and twice the steps of the next level.
        steps = 1
        for first in reversed("abcdef"):
            for second in reversed("abcdef"):
                value = told[("s", (first, second), None)][0]
                self.assertEqual(value, ("settled", "s", (), steps))
                steps = 2 * steps + 1
        self.assertEqual(steps, 2 ** 37 - 1)
        self.assertIs(is_table(LEVELS, told), True)

    def test_signatures(self):
        for function, told in ((rows, "(book)"), (value_of, "(book, row)"), (table, "(book)"),
                               (is_table, "(book, value)"), (asked, "(book, row)")):
            self.assertEqual(str(inspect.signature(function)), told)
            self.assertEqual(function.__module__, tables.__name__)


class IsTableTest(unittest.TestCase):

    def assert_wrong(self, one, value):
        self.assertIs(is_table(one, value), False)

    def test_a_value_that_is_looked_at_stays_as_it_is(self):
        for one in BOOKS[:3]:
            told = table(one)
            some = list(told)[len(told) // 2]
            for value in (told, changed(told, some, [1, {}]), {some: [told]}, [told], {"a": {"b": told}}):
                before = repr(value)
                is_table(one, value)
                self.assertEqual(repr(value), before)

    def test_any_values(self):
        for value in NO_WORDS + (DROP, nested(20), {"a": nested(19)}, {None: None}, {(): ()}):
            for one in BOOKS:
                if not (value == {} and len(one) == 0):
                    with self.subTest(value=repr(value)):
                        self.assert_wrong(one, value)
        self.assertIs(is_table(Book(), {}), True)
        self.assertIs(is_table(value={}, book=Book()), True)

    def test_other_ranks_that_are_right(self):
        for one in BOOKS:
            told = table(one)
            doubled = {row: (value, None if rank is None else rank * 10 ** 40) for row, (value, rank) in told.items()}
            self.assertIs(is_table(one, doubled), True)
            backwards = {row: told[row] for row in reversed(list(told))}
            self.assertIs(is_table(one, backwards), True)
            shifted = {row: (value, None if rank is None else rank + 3) for row, (value, rank) in told.items()}
            self.assertIs(is_table(one, shifted), True)

    def test_one_entry_otherwise(self):
        for one in SMALL:
            told = table(one)
            for row, (value, rank) in told.items():
                for entry in self.wrong_entries(value, rank):
                    self.assert_wrong(one, changed(told, row, entry))
                self.assert_wrong(one, {each: told[each] for each in told if each != row})

    def wrong_entries(self, value, rank):
        """Return entries that are wrong in the place of an entry with this value and rank."""
        made = [None, (), (value,), (value, rank, rank), [value, rank], (list(value), rank), (None, rank), ("", rank)]
        if rank is None:
            others = [0, 1, 10 ** 9, True, False, "", ()]
            made += [(("settled", "s", (), 0), 0), (("on", "s", (), 1), 5), (("never", 0), None), (("never", ()), None)]
            return made + [(value, other) for other in others]
        kind, state, signs, steps = value
        values = [
            (kind, state, signs, steps + 1), (kind, state, signs, steps - 1), (kind, state, signs), ("never",),
            (kind, state, list(signs), steps), (kind, state, signs + (1,), steps), (kind, state + "s", signs, steps),
            (kind, state, signs, str(steps)), (kind, state, signs, None), (kind, None, signs, steps),
            ("on" if kind == "settled" else "settled", state, signs, steps), (kind, state, None, steps),
            (kind, state, signs[:-1] + (99,), steps), (kind, state, signs, steps, 0),
        ]
        if steps in (0, 1):
            values.append((kind, state, signs, bool(steps)))
        if 1 in signs:
            values.append((kind, state, tuple(True if sign == 1 else sign for sign in signs), steps))
        made += [(other, 10 ** 9) for other in values]
        others = [None, -1, -10 ** 30, str(rank), (rank,), b"", True, False]
        return made + [(value, other) for other in others] + [(("never",), None)]

    def test_ranks_that_are_too_low(self):
        many = 0
        for one in BOOKS[:28]:
            told = table(one)
            for row, (value, rank) in told.items():
                if rank:
                    many += 1
                    if many % 5 == 0 or len(told) < 110:
                        most = max(told[each][1] for each in asked(one, row))
                        self.assert_wrong(one, changed(told, row, (value, most)))
        self.assertGreater(many, 100)

    def test_keys_that_are_no_rows(self):
        for one in BOOKS:
            told = table(one)
            entry = (("settled", "s", (), 0), 0)
            for key in (None, 1, "s", (), ("s",), ("s", (), "a"), ("s", (1, 2), 4), ("zzz", (), None), b"s", (1, (2,))):
                self.assert_wrong(one, changed(told, key, entry))
                less = dict(told)
                if less:
                    less.popitem()
                    self.assert_wrong(one, changed(less, key, entry))

    def test_keys_that_python_takes_for_rows(self):
        told = table(DROP)
        self.assertEqual(("s", (True,), None), ("s", (1,), None))
        for row, other in ((("s", (1,), None), ("s", (True,), None)), (("s", (1, 1), 1), ("s", (1, 1), True))):
            made = {other if each == row else each: told[each] for each in told}
            self.assertEqual(made, told)
            self.assert_wrong(DROP, made)

    def test_said_to_settle_in_a_ring(self):
        # Each row asks itself, so no rank is greater than its own.
        one = book("s /1/.. to s /1/..")
        told = table(one)
        for row, (value, rank) in told.items():
            if rank is None:
                made = changed(told, row, (("settled", "s", row[1], 1), 7))
                self.assert_wrong(one, made)

    def test_tables_of_other_books(self):
        for one in BOOKS:
            for other in BOOKS:
                told = table(other)
                right = list(told) == rows(one) and all(told[row][0] == value_of(one, row) for row in told)
                if not right:
                    self.assert_wrong(one, told)


if __name__ == "__main__":
    unittest.main()

"""Rows, their values and what they ask: [20] to [23] and the interface of tables.py."""

import itertools
import unittest

from sentonward.books import Book
from sentonward.errors import UnknownRow
from sentonward.rules import Rule
from sentonward.tables import asked, rows, value_of
from tests import naive
from tests.drawn import DROP, book, drawn_book
from tests.values import NO_WORDS

# The hands and signs of a book without named words and with the word a.
HANDS_0 = [((), [None]), ((1,), [None]), ((1, 1), [1, 2, None]), ((1, 2), [1, 2, 3, None])]
HANDS_1 = [
    ((), [None]), (("a",), [None]), ((1,), [None]), (("a", "a"), ["a", 1, None]), (("a", 1), ["a", 1, 2, None]),
    ((1, "a"), ["a", 1, 2, None]), ((1, 1), ["a", 1, 2, None]), ((1, 2), ["a", 1, 2, 3, None]),
]

NEVER = ("never",)

# Each book with some of its rows and their values, worked out by hand.
VALUES = (
    (("s /.. stays",), (
        (("s", (), None), ("settled", "s", (), 0)), (("s", (1,), None), ("settled", "s", (1,), 0)),
        (("s", (1, 2), 1), ("settled", "s", (1, 2, 1), 0)), (("s", (1, 1), None), ("settled", "s", (1, 1), 0)),
    )),
    (("s /1/1/.. to t /1/..", "s /1/2/.. to s /1/.."), (
        (("s", (1, 1), 1), ("settled", "t", (1, 1), 1)), (("s", (1, 1), 2), ("settled", "t", (1, 2), 1)),
        (("s", (1, 2), 3), ("on", "s", (1, 3), 1)), (("s", (1, 2), 1), ("on", "s", (1, 1), 1)),
        (("s", (1, 2), 2), ("on", "s", (1, 2), 1)), (("s", (1, 2), None), ("settled", "s", (1,), 1)),
        (("s", (1, 1), None), ("settled", "t", (1,), 1)), (("s", (1,), None), ("settled", "s", (1,), 0)),
        (("s", (), None), ("settled", "s", (), 0)),
    )),
    # Each step drops one segment; at the end of the path all of them are gone.
    (("s /1/.. to s /..",), (
        (("s", (), None), ("settled", "s", (), 0)), (("s", (1,), None), ("settled", "s", (), 1)),
        (("s", (1, 2), None), ("settled", "s", (), 2)), (("s", (1, 2), 3), ("on", "s", (2, 3), 1)),
        (("s", (1, 1), 1), ("on", "s", (1, 1), 1)), (("s", (1, 2), 1), ("on", "s", (2, 1), 1)),
    )),
    # A word becomes two others, and these are dropped.
    (("s /a/.. to s /b/b/..", "s /b/.. to s /..", "s /1/.. to t /1/.."), (
        (("s", ("a", 1), None), ("settled", "t", (1,), 4)), (("s", ("a", "a"), None), ("settled", "s", (), 6)),
        (("s", ("a", "b"), 1), ("on", "s", ("b", 1), 3)), (("s", ("b", 1), 1), ("on", "s", (1, 1), 1)),
        (("s", ("a",), None), ("settled", "s", (), 3)), (("s", (1, "a"), 2), ("settled", "t", (1, "a", 2), 1)),
    )),
    # Exchanging the first two goes round, but for a path of a single segment.
    (("s /1/2/.. to s /2/1/..",), (
        (("s", (1, 2), 3), NEVER), (("s", (1, 1), 2), NEVER), (("s", (1, 2), None), NEVER),
        (("s", (1,), None), ("settled", "s", (1,), 0)), (("s", (), None), ("settled", "s", (), 0)),
    )),
    (("s /1/2/.. to t /2/1/..",), (
        (("s", (1, 2), 3), ("settled", "t", (2, 1, 3), 1)), (("s", (1, 2), 1), ("settled", "t", (2, 1, 1), 1)),
        (("s", (1, 2), None), ("settled", "t", (2, 1), 1)), (("s", (1,), None), ("settled", "s", (1,), 0)),
    )),
    # Equal neighbours are compared, one of them is carried along.
    (("s /1/1/.. to s /1/..", "s /1/2/.. to t /2/1/..", "t /1/2/.. to s /2/.."), (
        (("s", (1, 1), 1), ("on", "s", (1, 1), 1)), (("s", (1, 1), 2), ("on", "s", (1, 2), 1)),
        (("s", (1, 2), 1), ("on", "s", (1, 1), 2)), (("s", (1, 2), 3), ("on", "s", (1, 3), 2)),
        (("s", (1, 2), None), ("settled", "s", (1,), 2)), (("t", (1, 2), 2), ("on", "s", (2, 2), 1)),
        (("t", (1,), None), ("settled", "t", (1,), 0)),
    )),
    (("s /a/1/.. to s /a/..", "s /1/.. to s /a/.."), (
        (("s", ("a", 1), 2), ("on", "s", ("a", 2), 1)), (("s", (1, 2), 3), ("on", "s", ("a", 3), 2)),
        (("s", ("a",), None), NEVER), (("s", (1, 2), None), NEVER), (("s", (), None), ("settled", "s", (), 0)),
    )),
    # Growing.
    (("s /1/.. to s /a/1/..",), (
        (("s", (1,), None), NEVER), (("s", ("a", "a"), 1), NEVER), (("s", (1, 1), None), NEVER),
        (("s", (), None), ("settled", "s", (), 0)),
    )),
    (("s /.. to s /a/..",), ((("s", (), None), NEVER), (("s", ("a", 1), 1), NEVER))),
    # Going round through two states, and past them.
    (("s /a/.. to t /a/..", "t /a/.. to s /a/..", "s /.. to u /.."), (
        (("s", ("a",), None), NEVER), (("s", ("a", 1), 1), NEVER), (("t", ("a", "a"), None), NEVER),
        (("s", (1, "a"), "a"), ("settled", "u", (1, "a", "a"), 1)), (("s", (), None), ("settled", "u", (), 1)),
        (("t", (1,), None), ("settled", "t", (1,), 0)),
    )),
    # Exact rules see the end of the path, and nothing else.
    (("s /1 to s /", "s / to t /a", "s /1/2 to s /2"), (
        (("s", (), None), ("settled", "t", ("a",), 1)), (("s", (1,), None), ("settled", "t", ("a",), 2)),
        (("s", (1, 2), None), ("settled", "t", ("a",), 3)), (("s", (1, 2), 3), ("settled", "s", (1, 2, 3), 0)),
        (("s", (1, 1), "a"), ("settled", "s", (1, 1, "a"), 0)),
    )),
    # A state without rules; an empty pattern.
    (("s /.. to t /a/..", "u /.. to s /.."), (
        (("s", (), None), ("settled", "t", ("a",), 1)), (("s", (1, 2), 1), ("settled", "t", ("a", 1, 2, 1), 1)),
        (("u", (1, "a"), 2), ("settled", "t", ("a", 1, "a", 2), 2)), (("u", (), None), ("settled", "t", ("a",), 2)),
    )),
    # A rule that sends to the same address does not let it stay.
    (("s /1/.. to s /1/..",), ((("s", (1,), None), NEVER), (("s", (1, 2), 3), NEVER))),
    (("s / to s /",), ((("s", (), None), NEVER), (("s", (1,), None), ("settled", "s", (1,), 0)))),
    # The first rule that fits lets the address stay, whatever the later ones do.
    (("s /1/1/.. stays", "s /1/.. to s /.."), (
        (("s", (1, 1), 2), ("settled", "s", (1, 1, 2), 0)), (("s", (1, 2), 2), ("on", "s", (2, 2), 1)),
        (("s", (1, 2), None), ("settled", "s", (), 2)),
    )),
)

# A book, a row and the rows that are asked for its value.
ASKED = (
    (("s /1/.. to s /..",), ("s", (1, 2), 3), []),
    (("s /1/.. to s /..",), ("s", (1, 2), None), [("s", (1,), None)]),
    (("s /1/.. to s /..",), ("s", (1,), None), [("s", (), None)]),
    (("s /1/.. to s /..",), ("s", (), None), []),
    (("s /a/.. to s /b/b/..", "s /b/.. to s /.."), ("s", ("a", 1), "b"), [("s", ("b", "b"), 1), ("s", ("b", 1), "b")]),
    (("s /a/.. to s /b/b/..", "s /b/.. to s /.."), ("s", ("a", 1), None),
     [("s", ("b", "b"), 1), ("s", ("b", 1), None)]),
    # The same row twice, and numbered anew.
    (("s /1/.. to t /a/a/a/a/..", "t /a/1/.. to t /1/.."), ("s", (1, 2), 1),
     [("t", ("a", "a"), "a"), ("t", ("a", "a"), "a"), ("t", ("a", "a"), 1), ("t", ("a", 1), 2)]),
    # After a row that settles or never does no further one is asked.
    (("s /1/.. to t /a/b/a/b/..", "t /a/b/.. stays"), ("s", (1, 2), 1), [("t", ("a", "b"), "a")]),
    (("s /1/.. to t /a/b/a/b/..", "t /a/b/.. to t /a/b/.."), ("s", (1, 2), None), [("t", ("a", "b"), "a")]),
    (("s /.. to t /..", "t /1/2/.. to u /2/1/..", "u /1/.. to u /1/.."), ("s", (1, 2), 3), [("t", (1, 2), 3)]),
    (("s /1/.. to s /1/..",), ("s", (1, 1), 2), [("s", (1, 1), 2)]),
    (("s /1/.. stays",), ("s", (1, 1), 2), []),
)


def told_rows(states, told):
    """Return the rows of some states, by the hands and signs of each."""
    return [(state, hand, sign) for state in states for hand, signs in told for sign in signs]


def filled(signs, words):
    """Return the segments for signs, with words in the place of the integers."""
    return tuple(sign if isinstance(sign, str) else words[sign - 1] for sign in signs)


class RowsTest(unittest.TestCase):

    def test_without_rules(self):
        self.assertEqual(rows(Book()), [])

    def test_without_named_words(self):
        self.assertEqual(rows(DROP), told_rows("s", HANDS_0))
        self.assertEqual(rows(book=book("u / to a /", "t / stays")), told_rows("tu", HANDS_0))

    def test_with_one_named_word(self):
        self.assertEqual(rows(book("s /1/.. to t /a/..")), told_rows("s", HANDS_1))

    def test_with_several_named_words(self):
        for words in (("a", "b"), ("aa", "b", "c"), ("a", "b", "c", "d", "e", "f")):
            one = Book(*[Rule(state, (word,)) for word in reversed(words) for state in "zs"])
            order = {sign: at for at, sign in enumerate((*words, 1, 2, 3, None))}
            signs = (*words, 1, 2, 3)
            hands = [hand for many in range(3) for hand in itertools.product(signs, repeat=many)]
            told = [
                (state, hand, sign) for state in "sz" for hand in hands for sign in (*signs, None)
                if self.is_numbered(hand + (sign,)) and (len(hand) == 2 or sign is None)
            ]
            key = {row: (row[0], len(row[1]), [order[sign] for sign in row[1]], order[row[2]]) for row in told}
            self.assertEqual(rows(one), sorted(told, key=key.get))

    def is_numbered(self, signs):
        found = [sign for sign in signs if isinstance(sign, int)]
        return list(dict.fromkeys(found)) == list(range(1, len(set(found)) + 1))

    def test_the_list_is_new(self):
        rows(DROP).clear()
        self.assertEqual(len(rows(DROP)), 9)


class UnknownRowTest(unittest.TestCase):

    def assert_unknown(self, one, value):
        for action in (value_of, asked):
            with self.subTest(value=repr(value)), self.assertRaises(UnknownRow) as caught:
                action(one, value)
            self.assertIs(caught.exception.value, value)

    def test_any_values(self):
        for value in NO_WORDS + (DROP, ("s",), ("s", ()), ("s", (), None, None), "sss", (None, None, None)):
            self.assert_unknown(DROP, value)
            self.assert_unknown(Book(), value)

    def test_rows_with_one_place_otherwise(self):
        one = book("s /1/a/.. to t /a/..", "u / stays")
        known = rows(one)
        others = (None, True, False, 0, 1, 2, 3, 4, -1, "a", "b", "s", "t", "u", "", b"a", (), (1,), ("a", 1), ["a"], {})
        for state, hand, sign in known:
            made = [(other, hand, sign) for other in others]
            made += [(state, other, sign) for other in others]
            made += [(state, hand, other) for other in others]
            made += [(state, hand[:at] + (other,) + hand[at + 1:], sign) for at in range(len(hand)) for other in others]
            made += [(state, hand + (other,), sign) for other in others]
            made += [(state, list(hand), sign), [state, hand, sign], (state, hand), (state, hand, sign, None)]
            for value in made:
                # Python takes True for 1, so the kinds are compared as well.
                if any(value == row and repr(value) == repr(row) for row in known):
                    value_of(one, value)
                else:
                    self.assert_unknown(one, value)

    def test_not_numbered(self):
        for value in (("s", (2,), None), ("s", (2, 1), 3), ("s", (1, 3), None), ("s", (1, 1), 3), ("s", (1, 2), 4),
                      ("s", (2, 2), 1), ("s", (0, 1), None), ("s", (1, 2), 0), ("s", (1, 2), -1), ("s", (True,), None),
                      ("s", (1, 2), True), ("s", (True, 2), 3), ("s", (1,), 2), ("s", (), 1), ("s", (1, 2, 3), None),
                      ("s", (1, 2), "a"), ("t", (1, 2), None), ("s", [1, 2], None)):
            self.assert_unknown(DROP, value)


class ValuesTest(unittest.TestCase):

    def test_by_hand(self):
        for texts, told in VALUES:
            one = book(*texts)
            for row, value in told:
                with self.subTest(book=texts, row=row):
                    self.assertEqual(value_of(one, row), value)
                    self.assertEqual(value_of(row=row, book=one), value)

    def test_asked_by_hand(self):
        for texts, row, told in ASKED:
            with self.subTest(book=texts, row=row):
                self.assertEqual(asked(book(*texts), row), told)
        one = book(*ASKED[4][0])
        asked(book=one, row=ASKED[4][1]).clear()
        self.assertEqual(asked(one, ASKED[4][1]), ASKED[4][2])

    def test_values_follow_the_rules_of_the_book_as_they_are(self):
        one = book("s /1/.. to s /..")
        self.assertEqual(value_of(one, ("s", (1,), None)), ("settled", "s", (), 1))
        one[0] = Rule("s", (1,), ("t", (1, "a")))
        self.assertEqual(value_of(one, ("s", (1,), None)), ("settled", "t", (1, "a"), 1))
        one.rules = [Rule("s", (), ("s", ()))]
        self.assertEqual(value_of(one, ("s", (1,), None)), NEVER)

    def test_the_run_itself(self):
        for seed in range(40):
            one = drawn_book(seed)
            rules = naive.plain(one)[0]
            for row in rows(one):
                self.assert_followed(rules, row, value_of(one, row), one.words)

    def assert_followed(self, rules, row, value, words):
        """The run of an address of a row goes as the value says, whatever stands behind."""
        state, hand, sign = row
        spare = ("x", "y", "z")
        front = filled(hand if sign is None else (*hand, sign), spare)
        tails = [()] if sign is None else [(), ("x",), ("q", "y"), (*words, "z", "x"), ("z", "z", *words)]
        for tail in tails:
            one = (state, front + tail)
            if value == NEVER:
                for _ in range(100):
                    one = naive.following(rules, one)
                    self.assertIsNotNone(one)
                continue
            kind, place, signs, steps = value
            for _ in range(steps):
                one = naive.following(rules, one)
            self.assertEqual(one, (place, filled(signs, spare) + tail))
            if kind == "settled":
                self.assertIsNone(naive.following(rules, one))
            self.assertTrue(kind == "settled" or sign is not None and len(signs) <= 2)

    def test_values_follow_from_those_that_are_asked(self):
        for seed in range(40, 80):
            one = drawn_book(seed)
            for row in rows(one):
                told = [value_of(one, each) for each in asked(one, row)]
                value = value_of(one, row)
                self.assertLessEqual(len(told), 6)
                self.assertTrue(all(each[0] == "on" for each in told[:-1]))
                if value == NEVER:
                    self.assertEqual(told[-1], NEVER)
                elif told:
                    self.assertEqual(value[3], 1 + sum(each[3] for each in told))
                    self.assertEqual(value[0], told[-1][0])


if __name__ == "__main__":
    unittest.main()

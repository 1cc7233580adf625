"""Longest runs: [3], [14], [15] and the interface of longest.py."""

import inspect
import itertools
import random
import unittest

from sentonward import longest as module
from sentonward.addresses import Address
from sentonward.books import Book, Chain
from sentonward.ends import end_of
from sentonward.errors import OutOfRange
from sentonward.longest import beyond, is_longest, longest, most_steps
from sentonward.rules import Rule
from tests import naive
from tests.drawn import DROP, OTHERS, address, book, drawn_book, drawn_chain
from tests.test_ends import GROWING, TURNING
from tests.test_tables import LEVELS
from tests.values import NO_WORDS, nested

SYSTEMS = [drawn_book(seed, 3, 2, 6) for seed in range(50)] + [
    drawn_chain(seed, books, 2, 2, 4) for seed in range(6) for books in (2, 3, 4)
]

PATHS = naive.paths(("a", "b") + OTHERS, 3)

# Systems and the most steps, None where there is no maximum.
MOST = (
    (Book(), 0), (book("s /.. stays"), 0), (book("s /1/2 stays", "s / stays"), 0), (book("s / to t /"), 1),
    (book("s /1/.. to t /.."), 1), (book("s /1/.. to s /.."), None), (DROP, None), (TURNING, 0), (GROWING, 0),
    (book("s /.. to s /.."), 0), (book("s /.. to s /..", "t /.. to u /.."), 1),
    (book("s /1/1/.. to t /1/1/..", "t /1/1/.. to u /1/1/..", "u /1/1/.. stays"), 2),
    (book("s /1/1/.. to t /1/1/..", "t /1/1/.. to u /1/1/..", "u /1/2/.. to u /2/1/.."), 0),
    (book("s /a to t /", "t / to u /a", "u /a to v /", "v / stays"), 3),
    (book("s /1/2 to s /1", "s /1 to s /", "s / to t /"), 3),
    (book("s /1/2/.. to t /1/..", "t /1/2/.. to u /1/..", "u /1/2/.. to v /1/.."), 3),
    (book("s /a/.. to s /b/b/..", "s /b/.. to t /b/.."), 2), (book("s /a/.. to s /b/b/..", "s /b/.. to s /.."), None),
    (book("s /a/1/.. to s /1/a/..", "s /1/a/.. to s /.."), None), (book("s /a/a/.. to s /a/.."), None),
    (Chain(DROP, Book()), None), (Chain(Book(), book("s /1/.. to s /..")), None), (LEVELS, None),
    (Chain(book("s /1/.. to t /.."), book("t /1/.. to u /.."), book("u /1/.. to v /..")), 3),
    (Chain(book("s /1/.. to t /.."), book("t /.. to t /..")), 0), (Chain(GROWING, DROP), 0),
    # The ring lies in front of what never settles, so it is on no way to an end.
    (book("s /1/2/.. to s /1/..", "s /1 to s /1", "s / to t /"), 1),
    (book("s /1/2/.. to s /2/..", "s /1 to s /1", "t /a to s /"), 1),
    # Or an end of the path lies behind the ring, but the path has to go on.
    (book("s /a/a/.. to s /a/..", "s /a to t /", "s /1/.. to s /1/.."), None),
)

# Addresses of fewer than three segments never settle, the others after one step.
LATE = book("s / to s /", "s /1 to s /1", "s /1/2 to s /1/2", "s /1/2/.. to t /1/2/..")

NO_NUMBERS = tuple(value for value in NO_WORDS if not (type(value) is int and 0 <= value <= 100)) + (
    -1, 201, 10 ** 40, (1,), [0], "1", b"1", DROP, {0: 1},
)


class LongestTest(unittest.TestCase):

    def assert_right(self, system, told):
        """A told tuple is what longest says it is, as far as it can be followed."""
        self.assertIs(type(told), tuple)
        if told[0] == "most":
            self.assertEqual(len(told), 3)
            self.assertIs(type(told[1]), int)
            self.assertEqual(end_of(system, told[2])[1], told[1])
            return
        kind, state, front, block, rest, steps, each = told
        self.assertEqual((kind, [type(path) for path in (front, block, rest)]), ("more", [tuple] * 3))
        self.assertGreaterEqual(each, 1)
        for many in (0, 1, 2, 3, 10):
            self.assertEqual(end_of(system, Address(state, front + block * many + rest))[1], steps + many * each)

    def test_by_hand(self):
        for system, most in MOST:
            told = longest(system)
            with self.subTest(most=most):
                self.assertEqual(told[0], "more" if most is None else "most")
                if most is not None:
                    self.assertEqual(told[1], most)
                self.assert_right(system, told)
                self.assertIs(is_longest(system, told), True)
        self.assertEqual(longest(Book(Rule("s", (), ("t", ()), is_exact=True)))[:2], ("most", 1))
        self.assertEqual(longest(system=DROP)[0], "more")

    def test_drawn_systems(self):
        kinds = {"most": 0, "more": 0}
        for system in SYSTEMS:
            told = longest(system)
            self.assert_right(system, told)
            self.assertIs(is_longest(system, told), True)
            kinds[told[0]] += 1
            books = naive.plain(system)
            for state, path in itertools.product(system.states, PATHS):
                right = naive.end(books, (state, path), 300, 60)
                if right not in (None, "long") and told[0] == "most":
                    self.assertLessEqual(right[1], told[1])
            if told[0] == "more":
                _, state, front, block, rest, steps, each = told
                for many in range(4):
                    right = naive.end(books, (state, front + block * many + rest))
                    self.assertIn(right if right == "long" else right[1], ("long", steps + many * each))
        self.assertGreater(kinds["most"], 10)
        self.assertGreater(kinds["more"], 10)

    def test_only_long_addresses_settle(self):
        kind, steps, start = longest(LATE)
        self.assertEqual((kind, steps, start.state, len(start)), ("most", 1, "s", 3))
        self.assertEqual([most_steps(LATE, many) is None for many in (0, 1, 2, 3)], [False] * 4)
        self.assertEqual([most_steps(LATE, many)[0] for many in (0, 1, 2, 3, 4, 200)], [0, 0, 0, 1, 1, 1])
        self.assertEqual((len(beyond(LATE, 0)), beyond(LATE, 1)), (3, None))
        dropping = book("s / to s /", "s /1 to s /1", "s /1/2 to s /1/2", "s /a/.. to s /..", "s /b/.. to t /..")
        told = longest(dropping)
        self.assertEqual(told[0], "more")
        self.assert_right(dropping, told)
        self.assertEqual([len(beyond(dropping, steps)) for steps in (0, 1, 2, 9)], [3, 4, 5, 12])
        self.assertEqual([most_steps(dropping, many)[0] for many in (2, 3, 4, 50)], [0, 1, 2, 48])

    def test_rings_that_change_the_words_in_hand(self):
        # A ring whose holes change places comes back to the same words only after several rounds.
        for texts in (("s /1/2/.. to t /2/..", "t /1/2/.. to s /1/.."), ("s /1/2/.. to s /2/..", "s /1/1/.. stays"),
                      ("s /a/1/.. to t /1/..", "t /1/b/.. to s /a/..", "t /1/2/.. to s /2/..", "s /1/2/.. to t /2/..")):
            system = book(*texts)
            told = longest(system)
            self.assertEqual(told[0], "more")
            self.assert_right(system, told)

    def test_many_steps(self):
        kind, state, front, block, rest, steps, each = longest(LEVELS)
        self.assertEqual((kind, state), ("more", "s"))
        exact = book(*[rule.text().replace("s /", "t /") for rule in LEVELS.rules[:-1]], "t /f/f/.. to t /..",
                     "s /a/a to t /a/a")
        self.assertEqual(most_steps(exact, 2)[0], 2 ** 36)
        self.assertEqual(most_steps(exact, 3)[0], 2 ** 36 - 1)

    def test_equal_books_have_equal_results(self):
        for system in SYSTEMS[:20]:
            one, other = longest(system), longest(system.copied())
            self.assertEqual(one, other)

    def test_signatures(self):
        for name, told in (("longest", "(system)"), ("is_longest", "(system, value)"),
                           ("most_steps", "(system, many)"), ("beyond", "(system, steps)")):
            function = getattr(module, name)
            self.assertEqual(str(inspect.signature(function)), told)
            self.assertEqual(function.__module__, module.__name__)


class IsLongestTest(unittest.TestCase):

    def test_other_right_tuples(self):
        one = book("s /1/.. to t /..", "t / to u /")
        for text in ("s:/b", "s:/abc"):
            self.assertIs(is_longest(one, ("most", 2, address(text))), True)
        self.assertIs(is_longest(value=("most", 0, address("q:/a/b/c")), system=Book()), True)
        self.assertIs(is_longest(TURNING, ("most", 0, address("s:/a"))), True)
        drop = book("s /1/.. to s /..")
        for value in (
            ("more", "s", (), ("a",), (), 0, 1), ("more", "s", (), ("a", "b", "c"), ("d",), 1, 3),
            ("more", "s", ("x",) * 30, ("a", "a"), (), 30, 2), ("more", "s", (), ("zzzzzzzz",), ("y", "z"), 2, 1),
        ):
            self.assertIs(is_longest(drop, value), True)
        self.assertIs(is_longest(DROP, ("more", "s", ("x",), ("y", "z"), ("x", "r"), 1, 2)), True)
        self.assertIs(is_longest(DROP, ("more", "s", ("x",), ("y",), (), 0, 1)), True)
        self.assertIs(is_longest(Chain(DROP, Book()), ("more", "s", ("x",), ("y", "z"), ("x", "r"), 1, 2)), True)

    def test_wrong_tuples_by_hand(self):
        drop, one = book("s /1/.. to s /.."), book("s /1/.. to t /..", "t / to u /")
        for value in (
            ("more", "s", (), ("a",), (), 0, 2), ("more", "s", (), ("a",), (), 1, 1), ("more", "s", (), (), (), 0, 1),
            ("more", "s", (), (), (), 0, 0), ("more", "t", (), ("a",), (), 0, 1), ("more", "t", (), ("a",), (), 0, 0),
            ("more", "s", [], ("a",), (), 0, 1), ("more", "s", (), ["a"], (), 0, 1), ("more", "s", (), ("a",), [], 0, 1),
            ("more", "s", (), ("a",), (), False, 1), ("more", "s", (), ("a",), (), 0, True),
            ("more", "s", (), ("A",), (), 0, 1), ("more", "S", (), ("a",), (), 0, 1), ("more", "s", (), "a", (), 0, 1),
            ("more", "s", (1,), ("a",), (), 1, 1), ("more", "s", (), ("a",), (), 0, 1, 1), ("more", "s", (), ("a",), (), 0),
            ["more", "s", (), ("a",), (), 0, 1], ("more",), ("most", 0, address("s:")), ("most", 3, address("s:/a/b/c")),
            ("more", "s", (), ("a",), (), "0", 1), ("more", "s", (), ("a",), (), 0, None), ("more", None, (), ("a",), (), 0, 1),
            ("more", address("s:"), (), ("a",), (), 0, 1), ("less", "s", (), ("a",), (), 0, 1),
        ):
            with self.subTest(value=repr(value)):
                self.assertIs(is_longest(drop, value), False)
        for value in (
            ("most", 1, address("s:/a/b")), ("most", 1, address("t:")), ("most", 2, address("s:/a/b")),
            ("most", 3, address("s:/a")), ("most", 1, address("s:/a")), ("most", 2, "s:/a"), ("most", 2, ("s", ("a",))),
            ("most", "2", address("s:/a")), ("most", 2, address("s:/a"), 2), ("most", 2), ["most", 2, address("s:/a")],
            ("most", None, address("s:/a")), ("Most", 2, address("s:/a")), ("most", 2, None), ("most", 0, address("q:")),
        ):
            with self.subTest(value=repr(value)):
                self.assertIs(is_longest(one, value), False)
        self.assertIs(is_longest(book("s / to t /"), ("most", True, address("s:"))), False)
        self.assertIs(is_longest(Book(), ("most", False, address("s:"))), False)
        self.assertIs(is_longest(TURNING, ("most", 0, address("s:/a/b"))), False)
        self.assertIs(is_longest(GROWING, ("more", "s", (), ("a",), (), 0, 1)), False)
        # Each block takes a step, but no such address settles.
        reading = book("s / to s /", "s /1 to s /1", "s /1/2/.. to s /2/..")
        self.assertIs(is_longest(reading, ("more", "s", ("a", "a"), ("a",), (), 0, 1)), False)
        reading = book("s / to s /", "s /1/.. to s /..")
        self.assertIs(is_longest(reading, ("more", "s", (), ("a",), (), 0, 1)), False)
        self.assertIs(is_longest(LATE, ("more", "s", ("a", "a"), ("a",), (), 0, 1)), False)
        # Right for no block, one and two of them, but not for more.
        late = book("s /a/.. to t /..", "t /a/.. to u /..", "u /a/.. to v /..", "q /1/.. to q /..")
        self.assertIs(is_longest(late, ("more", "s", (), ("a",), (), 0, 1)), False)
        # An address in between never settles, or those behind.
        turning = book("s /1/2/.. to t /2/..", "t /1/2/.. to s /2/..", "t /1 to t /1", "s /1 to u /")
        self.assertIs(is_longest(turning, ("more", "s", ("a",), ("a",), (), 1, 1)), False)
        self.assertIs(is_longest(turning, ("more", "s", ("a",), ("a", "a"), (), 1, 2)), True)
        uneven = book("s /a/.. to t /..", "t /a/.. to s /b/..", "s /b/.. to s /..")
        self.assertEqual(end_of(uneven, address("s:/a/a"))[1], 3)
        self.assertIs(is_longest(uneven, ("more", "s", (), ("a",), (), 0, 1)), False)
        self.assertIs(is_longest(uneven, ("more", "s", (), ("a", "a"), (), 0, 3)), True)

    def test_told_tuples_with_a_change(self):
        for system in SYSTEMS[:40]:
            told = longest(system)
            for at, part in enumerate(told):
                if isinstance(part, int):
                    for other in (part + 1, part - 1, str(part), None, [part]):
                        self.assertIs(is_longest(system, told[:at] + (other,) + told[at + 1:]), False)
                elif at:
                    for other in (None, 0, [], "", b"", [part]):
                        self.assertIs(is_longest(system, told[:at] + (other,) + told[at + 1:]), False)
            self.assertIs(is_longest(system, list(told)), False)
            self.assertIs(is_longest(system, told + (0,)), False)
            self.assertIs(is_longest(system, told[:-1]), False)

    def test_any_values(self):
        for value in NO_WORDS + (DROP, nested(20), ("most",), ("more",), (("most",),), (None,) * 3, (None,) * 7, ((),)):
            for system in (DROP, Book(), Chain(DROP, DROP)):
                with self.subTest(value=repr(value)):
                    self.assertIs(is_longest(system, value), False)


class MostStepsTest(unittest.TestCase):

    def test_drawn_systems(self):
        rng = random.Random(21)
        for system in SYSTEMS:
            for many in (0, 1, 2, 3, 5, 9):
                told = most_steps(system, many)
                if told is not None:
                    steps, start = told
                    self.assertEqual((len(start), end_of(system, start)[1]), (many, steps))
                    self.assertIn(start.state, system.states)
                paths = itertools.product(("a", "b") + OTHERS, repeat=many) if many <= 3 else [
                    tuple(rng.choice(("a", "b") + OTHERS) for _ in range(many)) for _ in range(15)
                ]
                ends = [end_of(system, Address(state, path)) for path in paths for state in system.states]
                found = [each[1] for each in ends if each is not None]
                if many <= 3:
                    self.assertEqual(None if told is None else told[0], max(found, default=None))
                elif found:
                    self.assertGreaterEqual(told[0], max(found))

    def test_by_hand(self):
        self.assertEqual(most_steps(DROP, 3)[0], 2)
        self.assertEqual(most_steps(system=DROP, many=200)[0], 199)
        self.assertEqual(most_steps(book("s /1/.. to s /.."), 200)[0], 200)
        self.assertEqual([most_steps(Book(), many) for many in (0, 1, 200)], [None, None, None])
        self.assertEqual([most_steps(book("s /.. to s /.."), many) for many in (0, 3)], [None, None])
        self.assertEqual([most_steps(TURNING, many) is None for many in (0, 1, 2, 3)], [False, False, True, True])
        # The state of a goal is one of the book's states, too.
        told = most_steps(book("s /.. to s /..", "u / to t /"), 2)
        self.assertEqual((told[0], told[1].state in ("t", "u"), len(told[1])), (0, True, 2))
        self.assertEqual(most_steps(book("s /1/2 to t /a/a", "t /a/a to u /b", "u /b to v /"), 2)[0], 3)
        self.assertEqual(most_steps(book("s /1/2 to t /a/a", "t /a/a to u /b", "u /b to v /"), 1)[0], 1)
        self.assertEqual(most_steps(Chain(DROP, book("t /1/.. to t /..")), 4)[0], 4)

    def test_settled_addresses_are_filled_up(self):
        one = book("s /a/.. to t /..", "t /b/.. to u /..")
        for many in (2, 3, 50, 200):
            steps, start = most_steps(one, many)
            self.assertEqual((steps, len(start), start.path[:2]), (2, many, ("a", "b")))

    def test_out_of_range(self):
        for value in NO_NUMBERS:
            for function, last in ((most_steps, 200), (beyond, 100)):
                if not (type(value) is int and 0 <= value <= last):
                    for system in (DROP, Book(), DROP + DROP):
                        with self.subTest(value=repr(value)), self.assertRaises(OutOfRange) as caught:
                            function(system, value)
                        self.assertIs(caught.exception.value, value)
        with self.assertRaises(OutOfRange):
            beyond(DROP, 101)
        self.assertEqual(most_steps(DROP, 200)[0], 199)
        self.assertEqual(len(beyond(DROP, 100)), 102)


class BeyondTest(unittest.TestCase):

    def test_drawn_systems(self):
        for system in SYSTEMS:
            told = longest(system)
            for steps in (0, 1, 2, 3, 5, 20, 100):
                start = beyond(system, steps)
                if start is None:
                    self.assertEqual((told[0], told[1] <= steps), ("most", True))
                    continue
                self.assertGreater(end_of(system, start)[1], steps)
                self.assertTrue(told[0] == "more" or told[1] > steps)
                for many in range(len(start) if len(start) < 20 else 20):
                    less = most_steps(system, many)
                    self.assertTrue(less is None or less[0] <= steps)

    def test_by_hand(self):
        self.assertEqual(len(beyond(DROP, 1)), 3)
        self.assertEqual(len(beyond(system=DROP, steps=0)), 2)
        self.assertIsNone(beyond(Book(), 0))
        self.assertIsNone(beyond(TURNING, 0))
        self.assertIsNone(beyond(GROWING, 5))
        one = book("s /a/.. to t /..", "t /b/.. to u /..")
        self.assertEqual([beyond(one, steps) is None for steps in (0, 1, 2)], [False, False, True])
        self.assertEqual(beyond(one, 1), address("s:/a/b"))
        # One segment with many steps is shorter than many segments with one step each.
        quick = book("s /a/.. to s /b/b/b/b/..", "s /b/.. to s /c/c/..", "s /1/.. to s /..")
        self.assertEqual([end_of(quick, address(text))[1] for text in ("s:/a", "s:/b", "s:/c")], [13, 3, 1])
        self.assertEqual([len(beyond(quick, steps)) for steps in (0, 12, 13, 25, 26, 38, 39)], [1, 1, 2, 2, 3, 3, 4])
        self.assertEqual(len(beyond(LEVELS, 100)), 2)


if __name__ == "__main__":
    unittest.main()

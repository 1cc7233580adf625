"""Ends, addresses that never settle, and rings: [3], [14], [15], [23] and the interface of ends.py."""

import inspect
import itertools
import random
import unittest

from sentonward import ends
from sentonward.addresses import Address
from sentonward.books import Book, Chain
from sentonward.ends import end_of, last_of, never_settles, ring
from sentonward.errors import Unsettled
from sentonward.rules import Rule
from tests import naive
from tests.drawn import DROP, OTHERS, address, book, drawn_book, drawn_chain
from tests.test_tables import LEVELS

SYSTEMS = [drawn_book(seed, 3, 2, 6) for seed in range(40)] + [
    drawn_chain(seed, books, 2, 2, 4) for seed in range(6) for books in (2, 3, 4)
]

SHORT = naive.paths(("a", "b") + OTHERS, 3)

TURNING = book("s /1/2/.. to s /2/1/..")
GROWING = book("s /1/.. to s /a/1/..")

# The second book loops for the last of four segments; what the first one leads to is sent away from there.
FOURTH = (
    book("v /1/.. to y /a/1/..", "z /.. to u /..", "r /.. to u /.."),
    book("y /1/2/.. to z /..", "z /1/2/.. to r /..", "r /1 to r /1"),
)

# Systems and the segments of a shortest address that never settles.
NEVER = (
    (book("s /.. to s /.."), 0), (book("s / to s /a", "s /a to s /"), 0), (book("s / to t /", "t /.. to t /a/.."), 0),
    (GROWING, 1), (book("s /1/.. to s /1/.."), 1), (book("s /a to s /a"), 1),
    (book("s / to t /a", "t /1/a to t /1/a"), 2), (TURNING, 2), (book("s /1/1/.. to s /1/1/.."), 2),
    (book("s /a/1/.. to t /1/..", "t /b/b/.. to t /b/b/.."), 2), (book("s /1/2/.. to t /1/..", "t /1/1 to t /1/1"), 2),
    (book("s /1/2 stays", "s /1/2/.. to s /2/1/.."), 3), (book("s /1/1 to t /", "s /1/1/.. to s /1/1/1/.."), 3),
    (book("s /1/2 to t /1", "s /1/.. to t /..", "t /1/.. to s /1/.."), None),
    (book("s /a/2 stays", "s /1/2 to s /a/2", "s /1/2/.. to s /1/2/.."), 3),
    (book("s /1/2/.. to t /1/..", "t /1/2/.. to u /1/2/..", "u /a/b/.. to t /a/b/.."), 2),
    (book("s /1/.. to t /..", "t /1/.. to u /..", "u /1/2/.. to u /2/1/.."), 2),
    (book("s /1/2/.. to t /2/..", "t /1/2/.. to u /2/..", "u /a/.. to u /a/.."), 1),
    (book("s /1/2/.. to t /2/..", "t /1/2/.. to a /2/..", "a /a/a to a /a/a"), 2),
    (Chain(Book(), GROWING), 1), (Chain(GROWING, Book()), 1),
    (Chain(book("s /1/.. to t /a/.."), book("t /a/.. to t /a/..")), 1),
    (Chain(book("s /1/2/.. to t /1/.."), Book(), book("t /1/1/.. to t /1/1/..")), 2),
    (Chain(book("s /1/2/.. to u /1/.."), book("u /1/1/.. to v /1/1/.."), book("v /1/.. to v /1/..")), 1),
    (Chain(book("s /1/2/.. to u /1/.."), book("u /1/1/.. to w /1/1/.."), book("w /1/.. to x /..", "x / to x /a")), None),
    (Chain(*FOURTH), 4), (Chain(book("q /1/2 stays", "q /1/2/.. to q /2/1/..") | FOURTH[0], FOURTH[1]), 3),
    (DROP, None), (Book(), None), (book("s /.. stays"), None), (LEVELS, None), (Chain(DROP, Book()), None),
)


def plain(one):
    """Return an address as a tuple of its state and its path."""
    return one.state, one.path


def long_paths(seed, words, many):
    """Return some drawn paths of four to twelve segments."""
    rng = random.Random(f"long {seed}")
    return [tuple(rng.choice(words) for _ in range(rng.randint(4, 12))) for _ in range(many)]


class EndsTest(unittest.TestCase):

    def test_drawn_systems(self):
        for seed, system in enumerate(SYSTEMS):
            books = naive.plain(system)
            states = sorted(set(system.states) | {"other"})
            paths = SHORT + long_paths(seed, ("a", "b") + OTHERS, 10)
            for state, path in itertools.product(states, paths):
                told = end_of(system, Address(state, path))
                right = naive.end(books, (state, path), 400, 100)
                if right is None:
                    self.assertIsNone(told)
                elif right != "long":
                    self.assertEqual((plain(told[0]), told[1]), right)
                    self.assertIs(type(told), tuple)
                    self.assertEqual(last_of(system, Address(state, path)), told[0])

    def test_the_next_address_has_the_same_end_after_one_step_less(self):
        for seed in range(40):
            one = drawn_book(seed)
            for state, path in itertools.product(one.states, SHORT[:40]):
                start = Address(state, path)
                told, after = end_of(one, start), one.after(start)
                if after is None:
                    self.assertEqual(told, (start, 0))
                elif told is None:
                    self.assertIsNone(end_of(one, after))
                else:
                    self.assertEqual(end_of(one, after), (told[0], told[1] - 1))

    def test_chains_add_the_steps_of_their_books(self):
        for seed in range(30):
            chain = drawn_chain(seed, 2 + seed % 3, 2, 2, 4)
            for state, path in itertools.product(chain.states, SHORT[:50]):
                one, steps = Address(state, path), 0
                for each in chain.books:
                    told = None if one is None else end_of(each, one)
                    one, steps = (None, 0) if told is None else (told[0], steps + told[1])
                self.assertEqual(end_of(chain, Address(state, path)), None if one is None else (one, steps))

    def test_states_that_no_rule_has(self):
        for system in SYSTEMS + [Book(), Chain(Book(), Book())]:
            start = Address("other", ["a", "x", "b", "y"])
            self.assertEqual(end_of(system, start), (start, 0))
            self.assertEqual(last_of(system, start), start)

    def test_segments_that_are_not_named_are_alike(self):
        for system in SYSTEMS:
            for state, path in itertools.product(system.states, long_paths(1, ("a", "x", "y", "b"), 5)):
                names = {"x": "other", "y": "abcdefgh"}
                told = end_of(system, Address(state, path))
                other = end_of(system, Address(state, [names.get(word, word) for word in path]))
                if told is None:
                    self.assertIsNone(other)
                else:
                    renamed = [names.get(word, word) for word in told[0].path]
                    self.assertEqual(other, (Address(told[0].state, renamed), told[1]))

    def test_unsettled(self):
        for system, start in ((TURNING, address("s:/a/b")), (Chain(Book(), GROWING), address("s:/x"))):
            self.assertIsNone(end_of(system, start))
            with self.assertRaises(Unsettled) as caught:
                last_of(system, start)
            self.assertIs(caught.exception.address, start)
        self.assertEqual(last_of(system=TURNING, address=address("s:/a")), address("s:/a"))

    def test_by_hand(self):
        self.assertEqual(end_of(DROP, address("s:/x/y/z")), (address("s:/x"), 2))
        self.assertEqual(end_of(address=address("s:/x/y/x/r"), system=DROP), (address("t:/x/r"), 2))
        exact = book("s /1 to s /", "s / to t /a", "s /1/2 to s /2")
        self.assertEqual(end_of(exact, address("s:/x/y")), (address("t:/a"), 3))
        self.assertEqual(end_of(exact, address("s:/x/y/z")), (address("s:/x/y/z"), 0))
        back = Chain(book("s /1/.. to t /.."), book("t /1/.. to s /1/1/.."), book("s /1/1/.. to s /.."))
        self.assertEqual(end_of(back, address("s:/x/y/z")), (address("s:/z"), 3))

    def test_long_addresses(self):
        self.assertEqual(end_of(DROP, Address("s", ("x",) + ("y", "z") * 5000 + ("x", "r"))), (address("t:/x/r"), 10001))
        self.assertEqual(end_of(Chain(DROP, Book(), book("t /1/.. to s /..")), Address("s", ("x",) * 20000)),
                         (Address("s", ("x",) * 19998), 2))

    def test_many_steps(self):
        steps = {}
        count = 1
        for first, second in itertools.product(reversed("abcdef"), repeat=2):
            steps[first, second] = count
            count = 2 * count + 1
        rng = random.Random(5)
        frames = [rng.choice(list(steps)) for _ in range(300)]
        path = [word for frame in frames for word in frame]
        told = end_of(LEVELS, Address("s", path))
        self.assertEqual(told, (address("s:"), sum(steps[frame] for frame in frames)))
        self.assertEqual(end_of(LEVELS, Address("s", path + ["x"]))[0], address("s:/x"))

    def test_edited_books(self):
        one = book("s /1/.. to s /..")
        self.assertEqual(end_of(one, address("s:/a/b")), (address("s:"), 2))
        one[0] = Rule("s", (1, 2), ("s", (2, 1)))
        self.assertIsNone(end_of(one, address("s:/a/b")))
        chain = one + DROP
        one.take(0)
        self.assertEqual(end_of(one, address("s:/a/b")), (address("s:/a/b"), 0))
        self.assertIsNone(end_of(chain, address("s:/a/b")))

    def test_signatures(self):
        for function, told in ((end_of, "(system, address)"), (last_of, "(system, address)"),
                               (never_settles, "(system)"), (ring, "(book, address)")):
            self.assertEqual(str(inspect.signature(function)), told)
            self.assertEqual(function.__module__, ends.__name__)


class NeverSettlesTest(unittest.TestCase):

    def test_by_hand(self):
        for system, many in NEVER:
            told = never_settles(system)
            with self.subTest(many=many):
                self.assertEqual(None if told is None else len(told), many)
                if told is not None:
                    self.assertIsNone(end_of(system, told))
        self.assertIsNone(never_settles(system=DROP))

    def test_drawn_systems(self):
        for system in SYSTEMS:
            lost = [len(path) for state, path in itertools.product(system.states, SHORT)
                    if end_of(system, Address(state, path)) is None]
            told = never_settles(system)
            if told is None:
                self.assertEqual(lost, [])
            else:
                self.assertIsNone(end_of(system, told))
                self.assertEqual(len(told), min(lost, default=len(told)))
                self.assertTrue(lost or len(told) > 3)


class RingTest(unittest.TestCase):

    def assert_ring(self, one, start):
        """What ring tells is reached by the run, one after the other; return whether the run grows."""
        first, added = ring(one, start)
        self.assertIsInstance(first, Address)
        self.assertIs(type(added), tuple)
        if len(first) < 3:
            self.assertEqual(added, ())
        rules, at, met = naive.plain(one)[0], plain(start), 0
        steps = 0
        while met < 4:
            wanted = first.path[:3] + added * met + first.path[3:]
            if at == (first.state, wanted):
                met += 1
            at = naive.following(rules, at)
            steps += 1
            self.assertIsNotNone(at)
            self.assertLess(steps, 3000)
        return added != ()

    def loops(self, one, start):
        """Return True if an address occurs twice in a run, False if its paths grow too long, None if it settles."""
        rules, at, seen = naive.plain(one)[0], plain(start), set()
        while at not in seen:
            seen.add(at)
            at = naive.following(rules, at)
            if at is None or len(at[1]) > 60:
                return None if at is None else False
        return True

    def test_drawn_books(self):
        told = {True: 0, False: 0, None: 0}
        for seed in range(150):
            one = drawn_book(seed, 3, 2, 6)
            for state, path in itertools.product(one.states, SHORT[::3] + long_paths(seed, ("a", "x", "y"), 3)):
                start = Address(state, path)
                self.assertEqual(ring(one, start) is None, end_of(one, start) is not None)
                if ring(one, start) is not None:
                    loops = self.loops(one, start)
                    self.assertEqual(self.assert_ring(one, start), not loops)
                    told[loops] += 1
        self.assertGreater(told[True], 100)
        self.assertGreater(told[False], 100)

    def test_by_hand(self):
        self.assertIsNone(ring(DROP, address("s:/a/b/c")))
        self.assertIsNone(ring(Book(), address("s:/a")))
        self.assertEqual(ring(book("s /a to s /a"), address("s:/a")), (address("s:/a"), ()))
        self.assertEqual(ring(book("s / to s /"), address("s:")), (address("s:"), ()))
        self.assertFalse(self.assert_ring(TURNING, address("s:/a/b/c/d")))
        self.assertTrue(self.assert_ring(GROWING, address("s:/x")))
        self.assertTrue(self.assert_ring(book("s /1/.. to t /1/1/b/..", "t /1/2/.. to s /2/1/.."), address("s:/x/y")))
        self.assertTrue(self.assert_ring(book("s /1/.. to s /1/a/b/1/.."), address("s:/x/y/z/x/y/z")))
        self.assertFalse(self.assert_ring(book("s /a/1/.. to s /1/a/..", "s /1/a/.. to s /a/1/.."), address("s:/a/x/y")))
        self.assertEqual(ring(address=address("t:/x"), book=TURNING), None)

    def test_a_long_way_to_the_ring(self):
        one = book("s /x/.. to s /..", "s /y/1/.. to t /1/y/a/..", "t /1/y/.. to s /y/1/..")
        self.assertTrue(self.assert_ring(one, Address("s", ("x",) * 500 + ("y", "z", "z"))))


if __name__ == "__main__":
    unittest.main()

"""Which states can have runs without end, and the rows that never settle: [14], [20], [22]."""

import random
import unittest

from sentonward.books import Book, Chain
from sentonward.ends import end_of, never_settles, spelled_row
from sentonward.lasting import changes, first_never, lasting_states, layers
from sentonward.tables import rows, value_of
from tests import naive
from tests.drawn import DROP, book, drawn_book
from tests.test_ends import GROWING, TURNING
from tests.test_tables import LEVELS

# Books with the states that may last.
LASTING = (
    (Book(), ""), (DROP, ""), (GROWING, "s"), (TURNING, "s"), (book("s /.. stays"), ""), (book("s /1 stays"), ""),
    (book("s /.. to t /.."), ""), (book("s /.. to t /a/.."), ""), (book("s /.. to s /.."), "s"),
    (book("s /1/.. to s /.."), ""), (book("s /1/2/.. to s /2/.."), ""), (book("s /1/.. to s /1/1/.."), "s"),
    # A ring is as good as all of its rules, and leads back from each of its states.
    (book("s /1/.. to t /..", "t /.. to s /a/.."), "st"), (book("s /1/2/.. to t /..", "t /.. to s /a/.."), ""),
    (book("s /1/2/.. to t /..", "t /1/.. to s /1/1/.."), ""), (book("s /1/2/.. to t /..", "t /1/.. to s /1/1/1/.."), "st"),
    (book("s /1/.. to t /..", "t /1/.. to u /1/..", "u /.. to s /a/.."), "stu"),
    (book("s /1/.. to t /..", "t /1/.. to u /1/..", "u /.. to s /.."), ""),
    (book("s /1/.. to t /..", "t /1/.. to u /..", "u / to s /a/b"), "stu"),
    # The rule that wins most counts, wherever it stands; one that lets addresses stay does not.
    (book("s /1/.. to s /..", "s /.. to s /.."), "s"), (book("s /.. to s /..", "s /1/.. to s /.."), "s"),
    (book("s /.. stays", "s /.. to s /.."), "s"), (book("s /.. stays", "t /1/.. to t /.."), ""),
    (book("s / to t /a", "s /1/.. to t /..", "t /1/.. to s /.."), "st"), (book("s /a to s /a"), "s"), (book("s / to s /"), "s"),
    # What leads to such a ring may last, what it leads to need not.
    (book("s /1/.. to t /..", "t /.. to t /.."), "st"), (book("s /.. to t /..", "s /.. to s /.."), "s"),
    (book("s /1/2/.. to t /..", "t /1/2/.. to u /..", "u /.. to v /..", "v /.. to u /..", "v /1/.. to w /.."), "stuv"),
    (book("s /1/2/.. to t /..", "t /1/2/.. to u /..", "u /.. to v /..", "v /1/.. to u /..", "v /1/.. to w /.."), ""),
    (book("s /1/.. to t /1/1/1/1/..", "t /1/2/.. to s /..", "t /1/2/.. to s /..", "s /.. to t /a/.."), "st"),
    # Two rings through one state, of which one gets shorter.
    (book("s /1/.. to t /..", "t /1/.. to s /..", "t /.. to u /a/..", "u /1/.. to t /1/.."), "stu"),
    (book("s /1/.. to t /..", "t /1/.. to s /..", "t /.. to u /a/..", "u /1/2/.. to t /.."), ""),
    (LEVELS, None),
)


def ringed(many, last):
    """Return a book whose ring of so many states gets longer by one segment at the first; the last one has a pattern."""
    states = "uvwxyz"[:many]
    ways = list(zip(states, states[1:]))
    return book("s /1/.. to u /..", f"u /.. to {states[1]} /a/..", *[f"{one} /.. to {goal} /.." for one, goal in ways[1:]],
                f"{states[-1]} {last}/.. to u /..")


class LastingTest(unittest.TestCase):

    def test_changes(self):
        self.assertEqual(changes(()), {})
        self.assertEqual(changes(DROP.rules), {("s", "t"): -1, ("s", "s"): -1})
        one = book("s /1/2/.. to t /..", "s /1/.. to t /1/1/..", "s / to t /", "s /.. stays", "t /a to s /a/a/a/a")
        self.assertEqual(changes(one.rules), {("s", "t"): 1, ("t", "s"): 3})

    def test_by_hand(self):
        for one, right in LASTING:
            with self.subTest(book=one.text()):
                if right is not None:
                    self.assertEqual(lasting_states(one.rules), list(right))
                self.assertEqual(lasting_states(one.rules[::-1]), lasting_states(one.rules))

    def test_rings_of_many_states(self):
        for many in (2, 3, 4, 5):
            states = ["s", *"uvwxyz"[:many]]
            for last, right in (("", states), ("/1", states), ("/a", states), ("/1/2", []), ("/a/1", [])):
                one = ringed(many, last)
                self.assertEqual(lasting_states(one.rules), right)
                self.assertEqual(never_settles(one) is None, last not in ("", "/1", "/a"))

    def test_followed_runs_that_loop_start_from_lasting_states(self):
        found = 0
        for seed in range(150):
            one = drawn_book(f"lasting {seed}", 3, 2, 5)
            states = lasting_states(one.rules)
            for state in one.states:
                for path in naive.paths(("a", "x", "y"), 3):
                    if naive.end(naive.plain(one), (state, path), 300, 60) is None:
                        self.assertIn(state, states)
                        found += 1
        self.assertGreater(found, 1000)

    def test_states_that_may_last_are_looked_at_and_may_settle(self):
        one = book("s /a/.. to t /..", "t /b/.. to s /a/a/..")
        self.assertEqual((lasting_states(one.rules), never_settles(one)), (["s", "t"], None))


class RowsTest(unittest.TestCase):

    def test_layers(self):
        for words in ((), ("a",), ("a", "b"), tuple("abcdef")):
            told = layers(words)
            self.assertEqual([len(layer) for layer in told[:2]], [1, len(words) + 1])
            for many, layer in enumerate(told):
                self.assertEqual({len(hand) + (sign is not None) for hand, sign in layer}, {many})
            one = book("s /.. stays", *[f"s /{word}/.. stays" for word in words])
            every = [("s", hand, sign) for layer in told for hand, sign in layer]
            self.assertEqual(sorted(every, key=repr), sorted(rows(one), key=repr))

    def test_first_of_all_rows(self):
        seen = {None: 0, 0: 0, 1: 0, 2: 0, 3: 0}
        for seed in range(250):
            one = drawn_book(f"first {seed}", 3, 2, 6)
            sizes = [len(hand) + (sign is not None) for state, hand, sign in rows(one)
                     if value_of(one, (state, hand, sign)) == ("never",)]
            told = first_never(one)
            if told is None:
                self.assertEqual(sizes, [])
                seen[None] += 1
            else:
                many = len(told[1]) + (told[2] is not None)
                self.assertEqual((value_of(one, told), many), (("never",), min(sizes)))
                seen[many] += 1
        self.assertGreater(min(seen[many] for many in (None, 0, 1, 2)), 10)

    def test_addresses_of_rows(self):
        one = book("s /a/1/.. to s /a/1/..")
        self.assertEqual(first_never(one), ("s", ("a", "a"), None))
        self.assertEqual(never_settles(one).text(), "s:/a/a")
        for row, text in ((("s", (), None), "s:"), (("s", (1,), None), "s:/b"), (("s", (1, 2), 3), "s:/b/c/d"),
                          (("s", ("a", 1), 1), "s:/a/b/b"), (("t", (1, 1), "a"), "t:/b/b/a")):
            self.assertEqual(spelled_row(one, row).text(), text)

    def test_books_of_chains(self):
        for one, other in ((GROWING, DROP), (DROP, GROWING), (TURNING, Book()), (book("s /a/1/.. to s /a/1/.."), DROP)):
            told = never_settles(Chain(one, other))
            self.assertIsNone(end_of(Chain(one, other), told))
        # The ring is never reached through the first book.
        chain = Chain(book("s /.. to t /.."), book("s /.. to s /.."))
        self.assertIsNone(never_settles(chain))
        self.assertIsNotNone(never_settles(Chain(Book(), chain.books[1])))


class DrawnTest(unittest.TestCase):

    def test_small_books_beside_followed_runs(self):
        found = {True: 0, False: 0}
        for seed in range(300):
            rng = random.Random(f"small {seed}")
            one = drawn_book(f"small {seed}", rng.choice((1, 2, 3)), rng.choice((0, 1, 2)), rng.choice((1, 2, 3)))
            told = never_settles(one)
            words = [*one.words, *[word for word in ("x", "y", "z") if word not in one.words]]
            lost = [len(path) for path in naive.paths(words, 3) for state in one.states
                    if naive.end(naive.plain(one), (state, path), 300, 60) in (None, "long")]
            self.assertEqual(None if told is None else len(told), min(lost, default=None))
            found[told is None] += 1
        self.assertGreater(min(found.values()), 50)


if __name__ == "__main__":
    unittest.main()

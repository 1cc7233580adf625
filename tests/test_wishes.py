"""Wishes: [14], [15] and the interface of wishes.py."""

import inspect
import itertools
import random
import unittest

from sentonward.addresses import Address
from sentonward.books import Book, Chain
from sentonward.ends import end_of
from sentonward.errors import InvalidWish
from sentonward.rules import Rule
from sentonward.wishes import Wish
from tests import naive
from tests.drawn import DROP, address, book, drawn_book, drawn_chain
from tests.test_ends import GROWING, TURNING
from tests.test_tables import LEVELS
from tests.values import NO_PATHS, NO_STRINGS, NO_WORDS, ODD_STRINGS, WORDS, nested

SYSTEMS = [drawn_book(seed, 3, 2, 4) for seed in range(120)] + [
    drawn_chain(seed, books, 2, 2, 3) for seed in range(20) for books in (2, 3)
]

NO_LISTS = NO_PATHS + (["a"] * 7, ("a",) * 7, list("abcdefg"), ["a"] * 100, Wish("s", (), ("s", ())), DROP)

NO_GOALS = NO_STRINGS + ODD_STRINGS + WORDS + (
    ["t", []], ["t", ()], ("t",), ("t", [], []), ([], "t"), ("t", None), ("t", "a"), ("t", 1), ("t", {}), ("t", b"a"), (None, []),
    ("T", []), ("", []), (1, []), (True, []), ("abcdefghi", []), (b"t", []), ("t", ["a"] * 7), ("t", [1]), ("t", ["A"]),
    ("t", [""]), ("t", [None]), ("t", [["a"]]), ("t", ("a", 2)), (("t", []),), {"t": []}, {0: "t", 1: []}, nested(20),
    Address("t"), Rule("t", ()), Wish("t", (), ("t", ())),
)


def broken_after(system, wish, words, most):
    """Return how many segments behind the beginning break a wish, by followed runs, or None."""
    books, (state, goal) = naive.plain(system), wish.goal
    for path in naive.paths(words, most):
        end = naive.end(books, (wish.state, wish.beginning + path), 300, 80)
        if end in (None, "long") or end[0] != (state, goal + path):
            return len(path)
    return None


class MakingTest(unittest.TestCase):

    def assert_invalid(self, field, *told):
        with self.assertRaises(InvalidWish) as caught:
            Wish(*told)
        self.assertEqual(vars(caught.exception), {"field": field})

    def test_properties(self):
        for told in (("s", (), ("t", ())), ("abcdefgh", ("a",) * 6, ("s", ("b",) * 6)), ("s", ("a", "b"), ("s", ("b", "a", "a")))):
            wish = Wish(*told)
            self.assertEqual((wish.state, wish.beginning, wish.goal), told)
            self.assertEqual([type(each) for each in (wish.beginning, wish.goal, wish.goal[1])], [tuple] * 3)
            other = Wish(goal=(told[2][0], list(told[2][1])), beginning=list(told[1]), state=told[0])
            self.assertEqual(other, wish)
            self.assertEqual([type(each) for each in (other.beginning, other.goal, other.goal[1])], [tuple] * 3)

    def test_lists_that_are_changed_afterwards(self):
        beginning, words = ["a"], ["b"]
        wish = Wish("s", beginning, ("t", words))
        beginning.append("c")
        words[0] = "d"
        self.assertEqual((wish.beginning, wish.goal), (("a",), ("t", ("b",))))

    def test_wishes_never_change(self):
        for name in ("state", "beginning", "goal"):
            with self.subTest(name=name), self.assertRaises(AttributeError):
                setattr(Wish("s", (), ("s", ())), name, "s")

    def test_refused(self):
        for value in NO_WORDS:
            with self.subTest(state=repr(value)):
                self.assert_invalid("state", value, [], ("t", []))
                self.assert_invalid("state", value, None, None)
        for value in NO_LISTS:
            with self.subTest(beginning=repr(value)):
                self.assert_invalid("beginning", "s", value, ("t", []))
                self.assert_invalid("beginning", "s", value, None)
        for value in NO_GOALS:
            with self.subTest(goal=repr(value)):
                self.assert_invalid("goal", "s", [], value)
                self.assert_invalid("goal", "s", ("a",) * 6, value)

    def test_equality(self):
        wishes = [Wish(state, beginning, (goal, words)) for state, beginning, goal, words in itertools.product(
            "st", ((), ("a",), ("a", "b")), "st", ((), ("a",), ("b", "a")))]
        for (at, one), (to, other) in itertools.product(enumerate(wishes), enumerate(list(wishes))):
            self.assertEqual((one == other, one != other), (at == to, at != to))
        for value in NO_WORDS + (DROP, ("s", (), ("s", ())), Rule("s", (), ("s", ()))):
            self.assertIs(wishes[0] == value, False)
            self.assertIs(value != wishes[0], True)

    def test_signatures(self):
        self.assertEqual(str(inspect.signature(Wish)), "(state, beginning, goal)")
        self.assertEqual(str(inspect.signature(Wish.broken)), "(self, system)")
        for name in ("__init__", "__eq__", "state", "beginning", "goal", "broken"):
            self.assertIn(name, vars(Wish))
        self.assertEqual(Wish.__module__, "sentonward.wishes")


class BrokenTest(unittest.TestCase):

    def assert_broken(self, system, wish, right, most):
        """What broken tells goes with the number of segments that break it, where so many are looked at."""
        told = wish.broken(system)
        if told is None:
            self.assertIsNone(right)
            return False
        many = len(told) - len(wish.beginning)
        self.assertEqual((told.state, told.path[:len(wish.beginning)]), (wish.state, wish.beginning))
        end = end_of(system, told)
        self.assertTrue(end is None or end[0] != Address(wish.goal[0], wish.goal[1] + told.path[len(wish.beginning):]))
        self.assertTrue(many == right if right is not None else many > most)
        return True

    def test_drawn_systems(self):
        found = {True: 0, False: 0}
        lengths = {}
        for seed, system in enumerate(SYSTEMS):
            rng, books = random.Random(f"wish {seed}"), naive.plain(system)
            for _ in range(6):
                state = rng.choice([*system.states, "other"])
                beginning = tuple(rng.choice("abxy") for _ in range(rng.randint(0, 3)))
                # What is wished is mostly right for the beginning alone, or for one segment behind it.
                rest = ("z",) * rng.randint(0, 1)
                end = naive.end(books, (state, beginning + rest), 300, 80)
                goal = (state, beginning)
                if end not in (None, "long") and rng.random() < 0.9 and end[0][1][len(end[0][1]) - len(rest):] == rest:
                    goal = (end[0][0], end[0][1][:len(end[0][1]) - len(rest)])
                if len(goal[1]) > 6:
                    continue
                wish = Wish(state, beginning, goal)
                right = broken_after(system, wish, sorted({"a", "b", "x", "y", "z"}), 3)
                is_broken = self.assert_broken(system, wish, right, 3)
                found[is_broken] += 1
                lengths[right] = lengths.get(right, 0) + 1
        self.assertGreater(min(found.values()), 200)
        self.assertGreater(min(lengths[many] for many in (None, 0, 1, 2)), 20)

    def test_by_hand(self):
        for system, state, beginning, goal, right in (
            (Book(), "s", ["a"], ("s", ["a"]), None), (Book(), "s", [], ("s", []), None), (Book(), "s", ["a"], ("t", ["a"]), 1),
            (Book(), "s", ["a"], ("s", []), 1), (Book(), "s", [], ("s", ["a"]), 0), (DROP, "s", ["a"], ("s", ["a"]), 2),
            (DROP, "s", ["a", "a"], ("t", ["a"]), None), (DROP, "s", ["a", "b", "b", "a"], ("t", ["a"]), None),
            (DROP, "s", ["a", "b"], ("s", ["a"]), 3), (DROP, "t", ["a", "b"], ("t", ["a", "b"]), None),
            (TURNING, "s", ["a"], ("s", ["a"]), 2), (TURNING, "s", ["a", "b"], ("s", ["a", "b"]), 2), (GROWING, "s", [], ("s", []), 1),
            (book("s /a/.. to t /b/.."), "s", ["a"], ("t", ["b"]), None), (book("s /a to t /b"), "s", ["a"], ("t", ["b"]), 2),
            (book("s /1/.. to t /1/1/.."), "s", ["x"], ("t", ["x", "x"]), None), (book("s /1/.. to t /1/1/.."), "s", [], ("t", []), 0),
            (book("s /1/2/.. to t /2/1/.."), "s", ["x"], ("t", ["x"]), 1), (book("s /1/2/.. to t /2/1/.."), "s", ["x", "y"], ("t", ["y", "x"]), None),
            (Chain(DROP, book("t /a/.. to u /..")), "s", ["a", "a"], ("u", []), None),
            (Chain(DROP, book("t /a/.. to u /..")), "s", ["b", "b"], ("t", ["b"]), None),
            (book("s /.. to s /.."), "s", [], ("s", []), 0), (Chain(Book(), Book()), "q", ["a"] * 6, ("q", ["a"] * 6), None),
            (LEVELS, "s", ["a", "a"], ("s", []), 2 + 2), (book("s /a/.. stays", "t / to s /"), "s", ["a"], ("s", ["a"]), None),
        ):
            wish = Wish(state, beginning, goal)
            told = wish.broken(system)
            with self.subTest(wish=(state, beginning, goal), book=repr(system)):
                self.assertEqual(None if told is None else len(told), right)
        self.assertEqual(Wish("s", [], ("s", [])).broken(system=DROP).state, "s")

    def test_a_view_that_comes_again_with_another_path(self):
        # Behind each further segment the same is in hand, and the end is the same, too short by it.
        one = book("s /1/a/.. to s /1/..")
        self.assertEqual(Wish("s", ("x", "a", "a"), ("s", ("x",))).broken(one), address("s:/x/a/a/a"))
        self.assertEqual(Wish("s", ("x",), ("s", ("x",))).broken(one), address("s:/x/a"))
        self.assertIsNone(Wish("s", ("x", "a", "b"), ("s", ("x", "b"))).broken(one))

    def test_segments_that_come_again(self):
        # It breaks only if a certain segment comes, named, or in hand.
        one = book("s /1/1/.. to t /1/1/..", "s /a/.. to t /a/..")
        self.assertEqual(Wish("s", ("x",), ("s", ("x",))).broken(one), address("s:/x/x"))
        self.assertEqual(Wish("s", (), ("s", ())).broken(one), address("s:/a"))
        self.assertEqual(Wish("s", ("a",), ("t", ("a",))).broken(one), None)
        late = Chain(book("s /1/2/.. to t /2/.."), book("t /1/1/.. to u /1/1/.."))
        self.assertEqual(Wish("s", ("x", "y"), ("t", ("y",))).broken(late), address("s:/x/y/y"))
        # Words that only the wish names are like any other words.
        self.assertIsNone(Wish("s", ("q", "r"), ("t", ("r",))).broken(book("s /1/2/.. to t /2/..")))
        told = Wish("s", ("q",), ("t", ("r",))).broken(book("s /1/2/.. to t /2/.."))
        self.assertEqual(told, address("s:/q"))

    def test_far_breaks(self):
        states = "stuvwx"
        rules = [Rule(one, (1, 2), (other, (1, 2))) for one, other in zip(states, states[1:])]
        self.assertEqual(len(Wish("s", (), ("s", ())).broken(Book.of(rules))), 2)
        count = [Rule(one, (1, 2), (other, (2,))) for one, other in zip(states[:4], states[1:5])]
        back = [Rule("w", ("a",), ("x", ()))]
        self.assertIsNone(Wish("s", ("q", "r", "q", "r", "b"), ("w", ("b",))).broken(Book.of(count + back)))
        self.assertEqual(Wish("s", ("q", "r", "q", "r"), ("v", ("r",))).broken(Book.of(count + back)).path[:4], ("q", "r", "q", "r"))

    def test_wishes_stay_as_they_are(self):
        wish = Wish("s", ("a",), ("s", ("a",)))
        self.assertEqual(wish.broken(DROP), wish.broken(DROP))
        self.assertEqual((wish.beginning, wish.goal), (("a",), ("s", ("a",))))


if __name__ == "__main__":
    unittest.main()

"""What rules are for, and which addresses meet them: [12] to [14], [30] and the interface of uses.py."""

import inspect
import random
import unittest

from sentonward import uses as module
from sentonward.books import Book
from sentonward.comparing import parted
from sentonward.errors import OutOfRange
from sentonward.rules import Rule
from sentonward.uses import dead, exchangeable, met, needless, passed
from tests import naive
from tests.drawn import DROP, OTHERS, address, book, drawn_book
from tests.test_books import NO_INDEXES
from tests.test_ends import GROWING, TURNING
from tests.test_tables import LEVELS

BOOKS = [drawn_book(seed, 3, 2, 6) for seed in range(60)]


def twice(one, seed):
    """Return a book in which some rules stand once more, or with a word in the place of a hole."""
    rng = random.Random(f"twice {seed}")
    rules = list(one.rules)
    for _ in range(3):
        rules.insert(rng.randrange(len(rules) + 1), rng.choice(rules))
    return Book.of(rules)


MANY = BOOKS + [twice(one, seed) for seed, one in enumerate(BOOKS[:30])]


def paths_of(one, most=3):
    """Return all paths over the named words of a book and three others, the shorter ones first."""
    return naive.paths(sorted({*one.words, *OTHERS, "z"}), most)


def shortest(one, is_wanted):
    """Return the first path in whose run, from the state s, some address is wanted."""
    rules = naive.plain(one)[0]
    for path in paths_of(one, 4):
        if any(is_wanted(each, rules) for each in naive.run(rules, ("s", path))):
            return path
    return None


def exchanged(one, at):
    """Return the book with a rule and the next one exchanged."""
    rules = list(one.rules)
    return Book.of(rules[:at] + [rules[at + 1], rules[at]] + rules[at + 2:])


class DeadTest(unittest.TestCase):

    def test_drawn_books(self):
        found = 0
        for one in MANY:
            rules = naive.plain(one)[0]
            used = {naive.first(rules, (state, path)) for state in one.states for path in paths_of(one)}
            told = dead(one)
            self.assertEqual(told, tuple(index for index in range(len(one)) if index not in used))
            self.assertIs(type(told), tuple)
            found += len(told)
        self.assertGreater(found, 50)

    def test_by_hand(self):
        for texts, right in (
            ((), ()), (("s / stays",), ()), (("s /.. stays", "s /1/.. to t /1/..", "t /.. stays"), (1,)),
            (("s /1/.. stays", "s /2/.. to t /2/..", "s /a/.. to t /..", "s / to t /"), (1, 2)),
            (("s /a/.. stays", "s /1/.. stays", "s /b/.. stays"), (2,)),
            # An exact rule leaves the longer addresses to the rules behind it, and takes the others.
            (("s /1/2 stays", "s /1/2/.. to t /.."), ()), (("s /1/2 stays", "s /a/b to t /", "s /a/b/.. to t /.."), (1,)),
            (("s / stays", "s /.. to t /..", "s /1 stays"), (2,)), (("s /a stays", "s /a/.. to t /..", "s /a to t /"), (2,)),
            # Two rules cover one together.
            (("s /1 stays", "s /1/2/.. stays", "s /1/.. to t /.."), (2,)), (("s / stays", "s /1/.. stays", "s /.. to t /.."), (2,)),
            (("s / stays", "s /1 stays", "s /1/2 stays", "s /1/2/.. stays", "s /.. to t /.."), (4,)),
            (("s /1/1/.. stays", "s /a/1/.. stays", "s /a/a/.. to t /.."), (2,)),
            (("s /1/1/.. stays", "s /1/2/.. to t /..", "s /2/1/.. to u /.."), (2,)),
            # All rules together do not name the other words.
            (("s /a/.. stays", "s /b/.. stays", "s /1/.. to t /.."), ()),
            (("s /1/a/.. stays", "s /a/2/.. stays", "s /a/a stays", "s /2/1/.. stays"), (2,)),
            (("t /.. stays", "s /.. stays", "u /.. stays", "s / stays", "u / stays", "t /a/.. stays"), (3, 4, 5)),
        ):
            with self.subTest(texts=texts):
                self.assertEqual(dead(book(*texts)), right)
        self.assertEqual(dead(book=DROP), ())


class NeedlessTest(unittest.TestCase):

    def assert_alike(self, one, other, is_alike):
        """Two books tell the same ends of short addresses, or differ as parted says; by followed runs."""
        one_rules, other_rules = naive.plain(one), naive.plain(other)
        states = sorted({*one.states, *other.states})
        if is_alike:
            for path in naive.paths(sorted({*one.words, *other.words, "x", "y"}), 2) + [("x", "y", "z"), ("x", "y", "x")]:
                for state in states:
                    told = naive.end(one_rules, (state, path), 300, 60)
                    right = naive.end(other_rules, (state, path), 300, 60)
                    ends = [None if each in (None, "long") else each[0] for each in (told, right)]
                    self.assertEqual(ends[0], ends[1])
        else:
            start = parted(one, other)
            ends = [naive.end(rules, (start.state, start.path)) for rules in (one_rules, other_rules)]
            ends = [None if each in (None, "long") else each[0] for each in ends]
            self.assertNotEqual(ends[0], ends[1])

    def test_drawn_books(self):
        found = {True: 0, False: 0}
        for one in BOOKS[:25] + MANY[60:75]:
            told = needless(one)
            self.assertEqual(told, tuple(sorted(told)))
            self.assertEqual([index for index in dead(one) if index not in told], [])
            for index in range(len(one)):
                self.assert_alike(one, one.without(index), index in told)
                found[index in told] += 1
        self.assertGreater(found[True], 30)
        self.assertGreater(found[False], 30)

    def test_drawn_neighbours(self):
        found = {True: 0, False: 0}
        for one in BOOKS[:25] + MANY[60:75]:
            told = exchangeable(one)
            self.assertEqual(told, tuple(sorted(told)))
            for at in range(len(one) - 1):
                self.assert_alike(one, exchanged(one, at), at in told)
                found[at in told] += 1
                states = [rule.state for rule in one.rules[at:at + 2]]
                self.assertTrue(states[0] == states[1] or at in told)
            self.assertNotIn(len(one) - 1, told)
        self.assertGreater(found[True], 30)
        self.assertGreater(found[False], 10)

    def test_needless_by_hand(self):
        for texts, right in (
            ((), ()), (("s / stays",), (0,)), (("s / to t /",), ()), (("s /.. to s /..",), ()),
            (("s /a/.. to t /..", "s /a/.. to t /.."), (0, 1)), (("s /a to t /", "s /a/.. to t /.."), (0,)),
            (("s /a stays", "s /1/.. to t /.."), ()), (("s /1/.. to t /..", "s /a/.. stays"), (1,)),
            # Either step alone leads to the same end.
            (("s /a/.. to t /..", "s /a/b/.. to t /b/.."), (1,)), (("s /a/.. to u /..", "t /a/.. to u /.."), ()),
            (("s /1/1/.. to s /1/1/..", "s /1/2/.. to s /2/1/.."), (0,)), (("s /1/.. to t /1/..", "t /.. to t /.."), ()),
            # It turns anyhow, by other rules.
            (("s /1/.. to t /1/..", "t /1/.. to s /1/..", "s /1/1/.. to s /1/1/.."), (2,)),
        ):
            with self.subTest(texts=texts):
                self.assertEqual(needless(book(*texts)), right)
        self.assertEqual(needless(book=DROP), ())

    def test_exchangeable_by_hand(self):
        for texts, right in (
            ((), ()), (("s / stays",), ()), (("s / stays", "s / to t /"), ()), (("s /a/.. stays", "s /b/.. to t /.."), (0,)),
            (("s / stays", "t / to u /", "t / stays"), (0,)), (("s /1/1/.. to t /1/..", "s /1/2/.. to s /1/.."), ()),
            (("s /a/.. to t /..", "s /a/b/.. to t /b/..", "s /a/.. to t /.."), (0, 1)),
            (("s /1 to t /1", "s / to t /", "s /1/2 to t /1/2", "s /.. to t /.."), (0, 1, 2)),
            (("s /1 to t /1", "s /a to u /a", "s /1/2 to u /1/2"), (1,)),
        ):
            with self.subTest(texts=texts):
                self.assertEqual(exchangeable(book(*texts)), right)
        self.assertEqual(exchangeable(book=DROP), ())


class MetTest(unittest.TestCase):

    def assert_shortest(self, told, right, states, most=3):
        """A told address is as short as the shortest of those with some states, or longer than all that are looked at."""
        if told is None:
            self.assertIsNone(right)
        else:
            self.assertIn(told.state, states)
            self.assertTrue(len(told) == right if right is not None else len(told) > most)

    def state_lists(self, one, seed):
        rng = random.Random(f"states {seed}")
        states = [*one.states, "other", "another"]
        return [[], ["other"], states, tuple(states[::-1]), [states[0]], (states[-3],), rng.sample(states, 2), ["other", states[0]]]

    def test_drawn_books(self):
        far = 0
        for seed, one in enumerate(BOOKS):
            rules, met_by, passed_by = naive.plain(one)[0], {}, {}
            for path in paths_of(one):
                for state in (*one.states, "other", "another"):
                    for each in naive.run(rules, (state, path)):
                        met_by.setdefault((state, naive.first(rules, each)), len(path))
                        passed_by.setdefault((state, each[0]), len(path))
            for states in self.state_lists(one, seed):
                for index in range(len(one)):
                    told = met(one, index, states)
                    lengths = [met_by[state, index] for state in states if (state, index) in met_by]
                    self.assert_shortest(told, min(lengths, default=None), states)
                    far += told is not None and not lengths
                    if told is not None:
                        run = naive.run(rules, (told.state, told.path), 400)
                        self.assertIn(index, [naive.first(rules, each) for each in run])
                for state in (*one.states, "other", "q"):
                    told = passed(one, states, state)
                    lengths = [passed_by[each, state] for each in states if (each, state) in passed_by]
                    self.assert_shortest(told, min(lengths, default=None), states)
                    if told is not None:
                        self.assertIn(state, [each[0] for each in naive.run(rules, (told.state, told.path), 400)])
        self.assertLess(far, 10)

    def test_met_by_hand(self):
        one = book("s /a/.. to t /..", "t /1/b/.. to u /..", "u /.. stays", "v /1/.. to v /1/1/..", "v / stays", "u / to s /")
        for index, states, text in (
            (0, ["s"], "s:/a"), (1, ["s"], "s:/a/_/b"), (1, ["t"], "t:/_/b"), (2, ["s"], "s:/a/_/b"), (2, ["t"], "t:/_/b"),
            (2, ["u"], "u:"), (2, ("s", "u"), "u:"), (0, ["t"], None), (0, ["q"], None), (0, [], None), (3, ["v"], "v:/_"),
            (4, ["v"], "v:"), (4, ["s", "t", "u"], None), (5, ["s", "t", "u", "v"], None),
        ):
            told = met(one, index, states)
            with self.subTest(index=index, states=states):
                self.assertEqual(told is None, text is None)
                if text is not None:
                    state, path = text.split(":")
                    parts = path.split("/")[1:]
                    self.assertEqual((told.state, len(told)), (state, len(parts)))
                    self.assertEqual([word if part == "_" else part for word, part in zip(told.path, parts)], list(told.path))

    def test_runs_that_go_round_or_grow(self):
        turning = book("s /1/2/.. to t /2/1/..", "t /1/2/.. to u /1/2/..", "u /1/2/.. to s /2/1/..", "u /a/b/.. stays")
        self.assertEqual([len(met(turning, index, ["s"])) for index in range(3)], [2, 2, 2])
        self.assertIsNone(met(turning, 3, ["s", "t", "u"]))
        self.assertEqual([len(passed(turning, ["s"], state)) for state in "stu"], [0, 2, 2])
        growing = book("s /1/.. to t /a/1/..", "t /a/a/.. to u /a/a/..", "t /1/.. to s /a/1/..", "u /1/.. to s /1/..")
        for index, state in enumerate(["s", "u", "t", "u"]):
            first = shortest(growing, lambda each, rules: naive.first(rules, each) == index)
            self.assertEqual(len(met(growing, index, ["s"])), len(first))
            first = shortest(growing, lambda each, rules: each[0] == state)
            self.assertEqual(len(passed(growing, ["s"], state)), len(first))
        self.assertEqual(met(GROWING, 0, ["s"]), address("s:/a"))
        self.assertEqual(len(met(TURNING, 0, ["s"])), 2)

    def test_the_last_address_counts(self):
        one = book("s /a/.. to t /..", "t / stays", "t /1/2/.. to q /..")
        self.assertEqual(met(one, 1, ["s"]), address("s:/a"))
        self.assertEqual(len(met(one, 2, ["s"])), 3)
        self.assertEqual(passed(one, ["s"], "t"), address("s:/a"))
        self.assertEqual(len(passed(one, ["s"], "q")), 3)
        self.assertEqual(len(passed(one, ["t"], "q")), 2)
        # The end of the path counts, as does a third segment.
        late = book("s /1/2 to t /", "s /1/2/.. to u /..", "t / to v /", "v / stays")
        self.assertEqual([len(met(late, index, ["s"])) for index in range(4)], [2, 3, 2, 2])
        self.assertEqual(len(passed(late, ["s"], "u")), 3)

    def test_far_segments(self):
        states = "stuvw"
        count = [Rule(one, (1, 2), (other, (2,))) for one, other in zip(states, states[1:])]
        one = Book(*count, Rule("w", ("a", 1), ("x", (1,))))
        told = met(one, 4, ["s"])
        self.assertEqual((len(told), told.path[4]), (6, "a"))
        self.assertEqual(met(one, 4, ["t", "s"]).state, "t")
        self.assertEqual(len(passed(one, ("s",), "x")), 6)
        equal = Book(Rule("s", (1, 1), ("t", ())), Rule("s", (1, 2), ("u", (1,))), Rule("u", (1, 2), ("s", (1, 2))))
        self.assertEqual(len(passed(equal, ["s"], "t")), 2)

    def test_very_many_steps(self):
        # Two segments are enough to meet all rules, one of them after 2 ** 36 - 2 steps.
        self.assertEqual([len(met(LEVELS, index, ["s"])) for index in range(len(LEVELS))], [2] * len(LEVELS))
        self.assertEqual([dead(LEVELS), needless(LEVELS)], [(), ()])

    def test_states_that_do_not_occur(self):
        self.assertEqual(passed(Book(), ["q", "r"], "q"), address("q:"))
        self.assertIsNone(passed(Book(), ["q", "r"], "s"))
        self.assertIsNone(passed(DROP, [], "s"))
        self.assertEqual(passed(DROP, ("q", "s"), "s"), address("s:"))
        self.assertEqual(len(passed(DROP, ["q", "s"], "t")), 2)
        self.assertIsNone(passed(DROP, ["q", "t"], "s"))

    def test_values_that_are_no_index(self):
        for value in NO_INDEXES + (2, 3, -1, True, False):
            for states in (["s"], [], ("q",)):
                with self.subTest(value=repr(value)), self.assertRaises(OutOfRange) as caught:
                    met(DROP, value, states)
                self.assertIs(caught.exception.value, value)
        with self.assertRaises(OutOfRange):
            met(Book(), 0, ["s"])

    def test_arguments_by_name(self):
        states = ["s", "t"]
        self.assertEqual(len(met(states=states, index=0, book=DROP)), 2)
        self.assertEqual(len(passed(state="t", states=["s"], book=DROP)), 2)
        self.assertEqual(states, ["s", "t"])

    def test_signatures(self):
        for name, told in (
            ("dead", "(book)"), ("needless", "(book)"), ("exchangeable", "(book)"), ("met", "(book, index, states)"),
            ("passed", "(book, states, state)"),
        ):
            function = getattr(module, name)
            self.assertEqual(str(inspect.signature(function)), told)
            self.assertEqual(function.__module__, module.__name__)


if __name__ == "__main__":
    unittest.main()

"""Which addresses end at a given one: [10], [14], [15] and the interface of sources.py."""

import inspect
import itertools
import random
import types
import unittest

from sentonward import sources as module
from sentonward.addresses import Address
from sentonward.books import Book, Chain
from sentonward.ends import end_of
from sentonward.errors import InvalidWords, OutOfRange
from sentonward.rules import Rule
from sentonward.sources import Net, are_endless, count_behind, grouped, lengthen, some_source, source_count, sources, tally
from tests import naive
from tests.drawn import DROP, address, book, drawn_book, drawn_chain
from tests.test_ends import GROWING, TURNING
from tests.test_tables import LEVELS
from tests.values import NO_WORDS, nested

SYSTEMS = [drawn_book(seed, 3, 2, 4) for seed in range(70)] + [
    drawn_chain(seed, books, 2, 2, 3) for seed in range(12) for books in (2, 3)
]

# Some of them are named, some are not.
EIGHT = ["a", "b", "p", "q", "r", "x", "y", "z"]
MIXED = [drawn_book(f"mixed {seed}", 2, 2, 4) for seed in range(14)] + [
    drawn_chain(f"mixed {seed}", books, 2, 2, 2) for seed in range(3) for books in (2, 3)
]

FIRST = book("s /1/2/.. to s /1/..")
LAST = book("s /1/2/.. to s /2/..")
BEGUN = book("s /a/.. to s /..")
PAST = book("s /1/.. to s /..")
BOTH = book("s /a/.. to t /b/..", "t /b/.. to u /..", "u /a/.. to s /..")

NO_WORD_LISTS = tuple(value for value in NO_WORDS if value not in (("a",), ["a"])) + (
    "abc", "ab", ["a", "a"], ("a", "b", "a"), list("abcdefghi"), tuple("abcdefghi"), list("abcdefgh") + ["a"], ["A"],
    ["a", "B"], ["a", ""], ["a", None], [1], [True], ["abcdefghi"], [["a"]], (("a",),), {"a": 1}, {"a": "b", "c": "d"},
    ["a", b"b"], [Address("a")], Address("a", ["b"]), DROP, DROP + DROP, Rule("s", ()), nested(20), (), [], {},
)

NO_NUMBERS = tuple(value for value in NO_WORDS if not (type(value) is int and 0 <= value <= 200)) + (
    -1, 201, 10 ** 40, (1,), [0], "1", b"1", DROP, {0: 1}, True, False,
)


def plain(one):
    """Return an address as a tuple of its state and its path."""
    return one.state, one.path


def ends_of(system, words, most):
    """Return a dict of all ends, as tuples, with the list of the addresses that settle there, by followed runs."""
    books, told = naive.plain(system), {}
    for state in (*system.states, "other"):
        for path in naive.paths(sorted(words), most):
            end = naive.end(books, (state, path), 400, 100)
            if end == "long":
                assert end_of(system, Address(state, path)) is None
            elif end is not None:
                told.setdefault((state, end[0]), []).append(Address(state, path))
    return told


def listed(system, goal, state, words, most):
    """Return the first addresses of sources, up to those with so many segments, and whether it has ended."""
    told = []
    for one in sources(system, goal, state, words):
        if len(one) > most:
            return told, False
        told.append(one)
    return told, True


class SourcesTest(unittest.TestCase):

    def test_drawn_systems(self):
        found = {True: 0, False: 0}
        for seed, system in enumerate(SYSTEMS):
            rng = random.Random(f"sources {seed}")
            words = rng.sample(["a", "b", "x"], rng.randint(1, 3))
            told = ends_of(system, words, 4)
            for state, end in rng.sample(sorted(told), min(5, len(told))):
                right, goal = told[state, end], Address(*end)
                is_endless = are_endless(system, goal, state, words)
                if is_endless:
                    listing = itertools.takewhile(lambda one: len(one) < 5, sources(system, goal, state, words))
                    self.assertEqual(list(listing), right)
                else:
                    whole = list(sources(system, goal, state, words))
                    self.assertEqual([one for one in whole if len(one) < 5], right)
                    self.assertEqual([end_of(system, one)[0] for one in whole], [goal] * len(whole))
                    self.assertTrue(all(one < other for one, other in zip(whole, whole[1:])))
                found[is_endless] += 1
                for many in range(5):
                    count = sum(len(one) == many for one in right)
                    self.assertEqual(source_count(system, goal, state, words, many), count)
        self.assertGreater(found[False], 100)
        self.assertGreater(found[True], 10)

    def test_by_hand(self):
        def texts(*told, most=9):
            return [one.text() for one in itertools.islice(sources(*told), most)]
        self.assertEqual(texts(DROP, address("t:/x"), "s", ["x"]), ["s:/x/x"])
        self.assertEqual(texts(DROP, address("t:/x"), "s", ["x", "y"]),
                         ["s:/x/x", "s:/x/y/x", "s:/x/y/y/x"] + ["s:/x" + "/y" * many + "/x" for many in range(3, 9)])
        self.assertEqual(texts(DROP, address("t:/x"), "t", ["x", "y"]), ["t:/x"])
        self.assertEqual(texts(DROP, address("t:/x"), "q", ["x", "y"]), [])
        self.assertEqual(texts(BEGUN, address("s:/b/a"), "s", ["a", "b"], most=3), ["s:/b/a", "s:/a/b/a", "s:/a/a/b/a"])
        self.assertEqual(texts(BEGUN, address("s:/b/a"), "s", ["b"]), [])
        self.assertEqual(texts(PAST, address("s:"), "s", ["b", "a"], most=7),
                         ["s:", "s:/a", "s:/b", "s:/a/a", "s:/a/b", "s:/b/a", "s:/b/b"])
        self.assertEqual(texts(book("s /1/2/.. to t /2/1/.."), address("t:/x/y/z"), "s", ["x", "y", "z", "w"]), ["s:/y/x/z"])
        self.assertEqual(texts(book("s /a to t /x"), address("t:/x"), "s", ["a"]), ["s:/a"])
        self.assertEqual(texts(book("s / to t /x"), address("t:/x"), "s", ["a"]), ["s:"])
        self.assertEqual(texts(TURNING, address("s:/a"), "s", ["a", "b"]), ["s:/a"])
        self.assertEqual(texts(TURNING, address("s:/a/b"), "s", ["a", "b"]), [])
        self.assertEqual(texts(GROWING, address("s:"), "s", ["a", "b"]), ["s:"])

    def test_states_that_no_rule_has(self):
        for system in (Book(), DROP, GROWING, DROP + BEGUN):
            for path in ((), ("a",), ("b", "a", "b"), ("a",) * 300):
                goal = Address("q", path)
                self.assertEqual(list(sources(system, goal, "q", ["a", "b"])), [goal])
                self.assertEqual(list(sources(system, goal, "r", ["a", "b"])), [])
                self.assertEqual(list(sources(system, goal, "q", ["a"])), [goal] if "b" not in path else [])
                self.assertIs(are_endless(system, goal, "q", ["a", "b"]), False)
                self.assertEqual(some_source(system, goal, "q"), goal)
                self.assertIsNone(some_source(system, goal, "r"))
                for many in (0, 1, 3, 200):
                    right = 1 if many == len(path) else 0
                    self.assertEqual(source_count(system, goal, "q", ["a", "b"], many), right)

    def test_goals_with_segments_that_are_not_among_the_words(self):
        one = book("s /a/.. to t /..")
        for system, state, text, words, many in (
            (Book(), "q", "q:/b", "a", 0), (Book(), "q", "q:/b/a", "a", 0), (Book(), "q", "q:/a/b", "a", 0), (Book(), "q", "q:/a/b", "ba", 1),
            (one, "s", "t:/x/y/z", "axy", 0), (one, "s", "t:/x/y/z", "ayz", 0), (one, "s", "t:/x/y/z", "xyz", 0), (one, "s", "t:/x/y/z", "axyz", 1),
            (one, "s", "t:/x/y/z/w", "axyw", 0), (one, "s", "t:/x/y/z/w", "wzyxa", 1), (one, "s", "t:/x/y/z/w", "axzw", 0),
        ):
            with self.subTest(text=text, words=words):
                told = list(sources(system, address(text), state, list(words)))
                self.assertEqual(len(told), many)
                count = sum(source_count(system, address(text), state, list(words), size) for size in range(8))
                self.assertEqual(count, many)

    def test_words_that_are_not_named(self):
        for system in SYSTEMS[:30]:
            for goal in (address("s:/x"), address("t:/x/y"), address("s:/a/x")):
                other = Address(goal.state, [{"x": "ww", "y": "xx"}.get(word, word) for word in goal.path])
                told = listed(system, goal, "s", ["a", "x", "y"], 3)[0]
                named = listed(system, other, "s", ["a", "ww", "xx"], 3)[0]
                self.assertEqual([one.text().replace("x", "ww").replace("y", "xx") for one in told],
                                 [one.text() for one in named])

    def test_chains(self):
        chain = Chain(book("s /a/.. to t /.."), book("t /1/1/.. to u /1/.."), book("u /b/.. to v /.."))
        self.assertEqual([one.text() for one in sources(chain, address("v:/a"), "s", ["a", "b"])], ["s:/a/b/b/a"])
        self.assertEqual([one.text() for one in sources(chain, address("v:/a"), "t", ["a", "b"])], ["t:/b/b/a"])
        self.assertEqual([one.text() for one in sources(chain, address("u:/a"), "t", ["a", "b"])], ["t:/a/a"])
        gone = PAST + book("s / to t /a")
        self.assertEqual([one.text() for one in itertools.islice(sources(gone, address("t:/a"), "s", ["a", "b"]), 4)],
                         ["s:", "s:/a", "s:/b", "s:/a/a"])

    def test_long_sources(self):
        told = list(itertools.islice(sources(BEGUN, address("s:/b"), "s", ["a", "b"]), 600))
        self.assertEqual([one.path for one in told], [("a",) * many + ("b",) for many in range(600)])
        goal = Address("t", ("x", "y") * 3000)
        told = list(sources(book("s /a/.. to t /.."), goal, "s", ["a", "x", "y"]))
        self.assertEqual(told, [Address("s", ("a",) + goal.path)])

    def test_very_many_steps(self):
        told = list(itertools.islice(sources(LEVELS, address("s:"), "s", ["a"]), 4))
        self.assertEqual([one.path for one in told], [(), ("a",) * 2, ("a",) * 4, ("a",) * 6])

    def test_the_arguments_are_read_when_the_first_value_is_requested(self):
        one, words = book("s /b/.. to s /.."), ["b"]
        told = sources(one, address("s:"), "s", words)
        self.assertIsInstance(told, types.GeneratorType)
        words[0] = "a"
        one[0] = Rule("s", ("a",), ("s", ()))
        self.assertEqual([next(told), next(told)], [address("s:"), address("s:/a")])
        words.append("b")
        one.take(0)
        self.assertEqual([next(told), next(told)], [address("s:/a/a"), address("s:/a/a/a")])
        for value in (None, [], ["a", "a"]):
            told = sources(DROP, address("s:"), "s", value)
            with self.assertRaises(InvalidWords):
                next(told)
        words = []
        told = sources(one, address("s:"), "s", words)
        words.append("b")
        self.assertEqual(list(told), [address("s:")])

    def test_arguments_by_name_and_lists_that_stay(self):
        words = ["b", "a"]
        told = sources(words=words, state="s", goal=address("s:/b"), system=BEGUN)
        self.assertEqual(next(told), address("s:/b"))
        self.assertEqual(list(sources(DROP, address("q:/b"), "q", ("b", "a"))), [address("q:/b")])
        self.assertEqual(source_count(many=3, words=words, state="s", goal=address("s:/b"), system=BEGUN), 1)
        self.assertIs(are_endless(words=words, state="s", goal=address("s:/b"), system=BEGUN), True)
        self.assertEqual(some_source(state="s", goal=address("s:/b"), system=BEGUN), address("s:/b"))
        self.assertEqual(words, ["b", "a"])

    def test_signatures(self):
        for name, told in (
            ("sources", "(system, goal, state, words)"), ("source_count", "(system, goal, state, words, many)"),
            ("are_endless", "(system, goal, state, words)"), ("some_source", "(system, goal, state)"),
        ):
            function = getattr(module, name)
            self.assertEqual(str(inspect.signature(function)), told)
            self.assertEqual(function.__module__, module.__name__)


class CountTest(unittest.TestCase):

    def test_beside_sources(self):
        for seed, system in enumerate(SYSTEMS[:60:2] + SYSTEMS[70:]):
            told = ends_of(system, ("a", "x"), 3)
            for state, end in sorted(told)[::7]:
                goal = Address(*end)
                listing, _ = listed(system, goal, state, ["a", "x"], 6)
                for many in range(7):
                    count = sum(len(one) == many for one in listing)
                    self.assertEqual(source_count(system, goal, state, ["a", "x"], many), count)

    def test_formulas(self):
        eight = ["a", "b", "c", "d", "e", "f", "x", "y"]
        for many in (0, 1, 2, 3, 4, 5, 10, 99, 100, 199, 200):
            def count(system, text, words, state="s"):
                return source_count(system, address(text), state, words, many)
            # The first segment stays, or the last one; the others are any words.
            self.assertEqual(count(FIRST, "s:/a", eight), 0 if many == 0 else 8 ** (many - 1))
            self.assertEqual(count(LAST, "s:/a", eight[:3]), 0 if many == 0 else 3 ** (many - 1))
            self.assertEqual(count(FIRST, "s:/z", eight), 0)
            # All are dropped, or only what begins.
            self.assertEqual(count(PAST, "s:", eight[:5]), 5 ** many)
            self.assertEqual(count(BEGUN, "s:/b/a", eight), 1 if many >= 2 else 0)
            self.assertEqual(count(BEGUN, "s:", ["a", "b"]), 1)
            # To and fro between two states.
            fro = book("s /a/.. to t /..", "t /b/.. to s /..")
            self.assertEqual(count(fro, "s:", ["a", "b"]), 1 if many % 2 == 0 else 0)
            self.assertEqual(count(fro, "t:", ["a", "b"]), 1 if many % 2 == 1 else 0)
            both = book("s /1/.. to t /..", "t /1/.. to s /..")
            self.assertEqual(count(both, "t:", ["a", "b", "c"]), 3 ** many if many % 2 == 1 else 0)
            self.assertEqual(count(both, "s:", ["a", "b", "c"], "t"), 3 ** many if many % 2 == 1 else 0)
            self.assertEqual(count(FIRST + PAST, "s:", ["a", "b"]), 2 ** many)
            # The same segment comes again exactly at the end.
            self.assertEqual(count(DROP, "t:/x", ["x", "y", "z"]), 0 if many < 2 else 2 ** (many - 2))

    def test_numbers_that_are_no_right_ones(self):
        for value in NO_NUMBERS:
            for system in (DROP, Book(), DROP + DROP):
                with self.subTest(value=repr(value)), self.assertRaises(OutOfRange) as caught:
                    source_count(system, address("s:"), "s", ["a"], value)
                self.assertIs(caught.exception.value, value)
        self.assertEqual(source_count(PAST, address("s:"), "s", ["a"], 200), 1)
        for value in (-1, 201, True, None):
            with self.assertRaises(InvalidWords):
                source_count(DROP, address("s:"), "s", [], value)

    def test_words_that_are_no_right_ones(self):
        for value in NO_WORD_LISTS:
            for function, more in ((sources, ()), (source_count, (3,)), (are_endless, ())):
                with self.subTest(value=repr(value)), self.assertRaises(InvalidWords) as caught:
                    told = function(DROP, address("s:"), "s", value, *more)
                    if function is sources:
                        next(told)
                self.assertIs(caught.exception.value, value)
        for value in (["a"], ("a",), list("abcdefgh"), tuple("hgfedcba"), ["abcdefgh", "z"]):
            self.assertEqual(source_count(DROP, address("s:"), "s", value, 0), 1)
            self.assertIs(are_endless(DROP, address("s:"), "s", value), False)


class ManyWordsTest(unittest.TestCase):
    """Words that nothing names are counted together, so counts are looked at beside followed runs."""

    def followed(self, system, state, words, many):
        """Return a dict of the ends, as tuples, of all paths with so many segments, with the number of these."""
        books, told = naive.plain(system), {}
        for path in itertools.product(words, repeat=many):
            end = naive.end(books, (state, path), 400, 100)
            if end == "long":
                self.assertIsNone(end_of(system, Address(state, path)))
            elif end is not None:
                told[end[0]] = told.get(end[0], 0) + 1
        return told

    def assert_counts(self, system, state, words, many, step):
        """The counts for some of the ends, and for goals that are none, are those of followed runs."""
        told = self.followed(system, state, words, many)
        goals = sorted(told, key=repr)[::step] + [(state, ("a", "x")), ("t", ("x",)), ("s", ()), ("s", ("p", "other"))]
        for end in goals:
            count = source_count(system, Address(*end), state, words, many)
            self.assertEqual(count, told.get(end, 0), (end, state, words, many))
        return len(told)

    def test_few_segments(self):
        found = 0
        for system in (FIRST, LAST, PAST, BEGUN, BOTH, DROP, FIRST + DROP, GROWING, TURNING, *MIXED):
            for state in system.states:
                for words, step in ((EIGHT, 29), (EIGHT[::-1], 53), (["a"], 1), (["x"], 1), (["b", "z"], 1)):
                    for many in (0, 1, 2, 3):
                        found += self.assert_counts(system, state, words, many, step)
        self.assertGreater(found, 5000)

    def test_all_ends_of_short_paths(self):
        # The sum over all goals is the number of all paths that settle.
        for system in (FIRST, LAST, PAST, BEGUN, DROP, *MIXED[:4]):
            for many in (0, 1, 2):
                told = self.followed(system, "s", EIGHT, many)
                counts = {end: source_count(system, Address(*end), "s", EIGHT, many) for end in told}
                self.assertEqual(counts, told)

    def test_two_hundred_segments_of_one_word(self):
        found = 0
        for system in (FIRST, LAST, PAST, BEGUN, BOTH, DROP, DROP + PAST, *MIXED, *SYSTEMS[:20]):
            for state, word in itertools.product(system.states, ("a", "x")):
                end = naive.end(naive.plain(system), (state, (word,) * 200), 600, 500)
                if end not in (None, "long"):
                    (goal, path), _ = end
                    self.assertEqual(source_count(system, Address(goal, path), state, [word], 200), 1)
                    self.assertEqual(source_count(system, Address(goal, (*path, word)), state, [word], 200), 0)
                    found += 1
        self.assertGreater(found, 100)

    def test_two_hundred_segments_of_eight_words(self):
        for word in EIGHT:
            goal = Address("s", [word])
            self.assertEqual(source_count(FIRST, goal, "s", EIGHT, 200), 8 ** 199)
            self.assertEqual(source_count(LAST, goal, "s", EIGHT, 200), 8 ** 199)
            # The second one is the first that comes again, or no other one is.
            self.assertEqual(source_count(DROP, Address("t", [word]), "s", EIGHT, 200), 7 ** 198)
            self.assertEqual(source_count(DROP, goal, "s", EIGHT, 200), 7 ** 199)
        self.assertEqual(source_count(PAST, Address("s"), "s", EIGHT, 200), 8 ** 200)
        self.assertEqual(source_count(book("s /a/.. to s /..", "s /x/.. to s /.."), Address("s"), "s", EIGHT, 200), 2 ** 200)
        self.assertEqual(source_count(book("s /1/1/.. to s /1/.."), Address("s", ["a"]), "s", EIGHT, 200), 1)
        self.assertEqual(source_count(book("s /1/1/.. to s /.."), Address("s", ["a"]), "s", EIGHT, 200), 0)
        self.assertEqual(source_count(book("s /1/1/.. to s /.."), Address("s"), "s", EIGHT, 200), 8 ** 100)
        self.assertEqual(source_count(Book(), Address("s", ["a", "x"] * 100), "s", EIGHT, 200), 1)
        self.assertEqual(source_count(book("s /1/.. to t /.."), Address("t", ["q"] * 199), "s", EIGHT, 200), 8)
        self.assertEqual(source_count(book("s /1/2/.. to t /2/2/.."), Address("t", ["q"] * 200), "s", EIGHT, 200), 8)

    def test_words_that_are_told_apart_have_the_same_counts(self):
        found = 0
        for system in (FIRST, LAST, PAST, BEGUN, BOTH, DROP, DROP + PAST, *MIXED):
            for goal in (Address("s"), Address("t", ["x"]), Address("s", ["a", "q"]), Address("u", ["a"])):
                net = Net(system, goal, "s", EIGHT, EIGHT)
                rows = []
                while len(rows) <= 200:
                    lengthen(net, rows)
                for many in (0, 1, 2, 3, 4, 7, 60, 200):
                    count = 0 if net.start is None else count_behind(rows, many, *net.start)
                    self.assertEqual(source_count(system, goal, "s", EIGHT, many), count)
                    found += count > 0
        self.assertGreater(found, 100)

    def test_goals_with_words_that_are_not_among_them(self):
        for text, words, many, right in (("s:/other", EIGHT, 3, 0), ("s:/other", ["other"], 3, 1), ("s:/a", ["x"], 1, 0),
                                         ("s:/a", ["a", "x"], 200, 2 ** 199), ("s:/a/b", EIGHT, 2, 0)):
            self.assertEqual(source_count(FIRST, address(text), "s", words, many), right)
        for many, right in ((0, 0), (1, 0), (2, 0), (3, 8), (4, 0)):
            self.assertEqual(source_count(book("s /1/.. to t /.."), address("t:/x/y"), "s", EIGHT, many), right)
            self.assertEqual(source_count(book("s /1/.. to t /.."), address("t:/x/other"), "s", EIGHT, many), 0)

    def test_groups(self):
        self.assertEqual(tally([]), ())
        self.assertEqual(tally([(1, 2), (0, 3), (1, 2)]), (((0, 3), 1), ((1, 2), 2)))
        net = Net(FIRST, address("s:/a"), "s", EIGHT, ())
        groups, tallies = grouped(net)
        self.assertEqual(sorted(set(groups.values())), list(range(len(tallies))))
        for system in MIXED:
            net = Net(system, address("s:/a"), "s", EIGHT, ())
            groups, tallies = grouped(net)
            for at, group in groups.items():
                moves = [(left, -1 if target is None else groups[target]) for _, left, target in net.moves[at]
                         if target is None or target in groups]
                self.assertEqual(tally(moves), tallies[group])


class EndlessTest(unittest.TestCase):

    def test_by_hand(self):
        for system, text, words, right in (
            (DROP, "t:/x", ["x", "y"], True), (DROP, "t:/x", ["x"], False), (DROP, "t:/x", ["y"], False),
            (DROP, "s:/x", ["x"], False), (DROP, "s:/x", ["x", "y"], True), (BEGUN, "s:/b", ["a", "b"], True),
            (BEGUN, "s:/b", ["b"], False), (BEGUN, "s:/b", ["a"], False), (BEGUN, "s:/a", ["a", "b"], False),
            (PAST, "s:", ["a"], True), (PAST, "s:/a", ["a"], False), (BOTH, "s:", ["a", "b"], True),
            (BOTH, "u:", ["a", "b"], True), (BOTH, "u:", ["b"], False), (GROWING, "s:", ["a"], False),
            (TURNING, "s:/a", ["a"], False), (Book(), "s:/a", ["a"], False), (PAST + DROP, "s:", ["a", "b"], True),
            (DROP + PAST, "t:/x", ["x", "y"], True), (DROP + PAST, "s:/x", ["x", "y"], False),
            (book("s /1 to s /1", "s / to s /", "s /1/.. to s /.."), "s:", ["a"], False),
        ):
            with self.subTest(text=text, words=words):
                self.assertIs(are_endless(system, address(text), "s", words), right)

    def test_beside_counts(self):
        found = {True: 0, False: 0}
        for seed, system in enumerate(SYSTEMS):
            told = ends_of(system, ("a", "x"), 3)
            for state, end in sorted(told)[::5]:
                goal = Address(*end)
                is_endless = are_endless(system, goal, state, ["a", "x"])
                # A path of so many segments goes round somewhere, and less often round as well.
                far = [source_count(system, goal, state, ["a", "x"], many) > 0 for many in range(189, 201)]
                self.assertEqual(any(far), is_endless)
                found[is_endless] += 1
        self.assertGreater(found[True], 20)
        self.assertGreater(found[False], 50)


class SomeSourceTest(unittest.TestCase):

    def test_drawn_systems(self):
        for seed, system in enumerate(SYSTEMS):
            told = ends_of(system, ("a", "b", "x"), 3)
            for state, end in sorted(told)[::5]:
                goal = Address(*end)
                one = some_source(system, goal, state)
                self.assertEqual((one.state, end_of(system, one)[0]), (state, goal))
                self.assertLessEqual(len(one), len(told[state, end][0]))
                for path in naive.paths(sorted({"a", "b", "x", "y", "z"}), len(one) - 1 if len(one) < 4 else 2):
                    other = end_of(system, Address(state, path))
                    self.assertTrue(other is None or other[0] != goal)

    def test_none(self):
        for seed, system in enumerate(SYSTEMS):
            told = ends_of(system, ("a", "b", "x", "y"), 3)
            for text in ("s:", "t:/a", "s:/x", "s:/b/a", "u:/x/x", "t:/x/y", "other:/a"):
                one = some_source(system, address(text), "s")
                if one is None:
                    self.assertNotIn(("s", plain(address(text))), told)
                else:
                    self.assertEqual(end_of(system, one)[0], address(text))
        for system, text in ((TURNING, "s:/a/b"), (BEGUN, "s:/a"), (PAST, "s:/q"), (DROP, "t:"), (DROP, "s:/q/r"),
                             (book("s /1/1/.. stays", "s /1/2/.. to t /1/.."), "s:/x/y"), (GROWING, "s:/x"),
                             (book("s /1/1/.. stays", "s /1/2/.. to t /1/2/.."), "t:/x/x/y")):
            self.assertIsNone(some_source(system, address(text), "s"))

    def test_segments_that_no_rule_names(self):
        swap = book("s /1/2/.. to t /2/1/..")
        self.assertEqual(some_source(swap, address("t:/x/y/z/abc"), "s"), address("s:/y/x/z/abc"))
        self.assertEqual(some_source(swap, address("t:/x/x"), "s"), address("s:/x/x"))
        named = book("s /1/.. to t /1/1/a/..")
        self.assertEqual(some_source(named, address("t:/x/x/a/q"), "s"), address("s:/x/q"))
        self.assertEqual(some_source(named, address("t:/a/a/a/q"), "s"), address("s:/a/q"))
        self.assertIsNone(some_source(named, address("t:/x/y/a/q"), "s"))
        # The source has a segment more, which must be none of those that the goal has.
        other = book("s /1/1/.. stays", "s /a/1/.. stays", "s /b/1/.. stays", "s /1/2/.. to t /2/..")
        one = some_source(other, address("t:/c/d/e"), "s")
        self.assertEqual((len(one), one.path[1:], end_of(other, one)[0]), (4, ("c", "d", "e"), address("t:/c/d/e")))

    def test_goals_with_many_segments(self):
        goal = Address("t", [word + other for word in "abcdefghij" for other in "abcdefghij"])
        one = some_source(book("s /1/2/.. to t /2/1/.."), goal, "s")
        self.assertEqual(one.path, (goal.path[1], goal.path[0]) + goal.path[2:])
        self.assertEqual(some_source(Chain(DROP, Book()), goal, "s").path, goal.path[:1] + goal.path)

    def test_a_settled_beginning_is_not_always_the_best(self):
        # What settles late may leave fewer segments behind.
        one = book("s /a/.. to t /..", "s /b/1/.. to t /x/y/z/1/..")
        self.assertEqual(some_source(one, address("t:/x/y/z/w"), "s"), address("s:/b/w"))
        self.assertEqual(some_source(one, address("t:/x/y/w"), "s"), address("s:/a/x/y/w"))
        self.assertEqual(len(some_source(book("s /a to t /x", "s / to t /x"), address("t:/x"), "s")), 0)

    def test_chains(self):
        chain = Chain(book("s /a/.. to t /.."), book("t /1/1/.. to u /1/.."), book("u /b/.. to v /.."))
        self.assertEqual(some_source(chain, address("v:/q"), "s"), address("s:/a/b/b/q"))
        self.assertEqual(some_source(chain, address("u:/q"), "s"), address("s:/a/q/q"))
        self.assertIsNone(some_source(chain, address("u:/b"), "s"))
        self.assertEqual(some_source(Chain(BEGUN, DROP), address("t:/q"), "s"), address("s:/q/q"))


if __name__ == "__main__":
    unittest.main()

"""Systems beside each other, and closed sets of pairs: [30], [31] and the interface of comparing.py."""

import inspect
import itertools
import random
import unittest

from sentonward import comparing
from sentonward.addresses import Address
from sentonward.books import Book, Chain
from sentonward.comparing import are_alike, is_pairs, more_in, pairs, parted, tells_no_more
from sentonward.ends import end_of
from sentonward.rules import Rule
from tests import naive
from tests.drawn import DROP, OTHERS, address, book, changed_books, drawn_book, drawn_chain
from tests.test_tables import LEVELS
from tests.values import NO_WORDS, nested

SHORT = naive.paths(("a",) + OTHERS, 3) + [("b",), ("a", "b"), ("x", "b"), ("b", "b"), ("b", "x", "b")]
SHORT = sorted(SHORT, key=len)

TURNING = book("t /1/.. to t /1/..")

STANDS = ("on", "s", ())


def exchanged(rule):
    """Return the rule with the holes 1 and 2 exchanged."""
    other = {1: 2, 2: 1}
    goal = None if rule.goal is None else (rule.goal[0], [other.get(entry, entry) for entry in rule.goal[1]])
    return Rule(rule.state, [other.get(entry, entry) for entry in rule.pattern], goal, is_exact=rule.is_exact)


def special(rule, word):
    """Return the rule with a word in the place of a hole, where it has one."""
    holes = [entry for entry in rule.pattern if isinstance(entry, int)]
    if not holes:
        return rule
    other = {holes[0]: word}
    goal = None if rule.goal is None else (rule.goal[0], [other.get(entry, entry) for entry in rule.goal[1]])
    return Rule(rule.state, [other.get(entry, entry) for entry in rule.pattern], goal, is_exact=rule.is_exact)


def alike_books(one, rng):
    """Return books that are equivalent to a book by making."""
    rules = list(one.rules)
    at = rng.randrange(len(rules))
    made = [
        [exchanged(rule) for rule in rules],
        rules[:at + 1] + rules[at:],
        rules[:at] + [special(rules[at], "a")] + rules[at:],
        rules + [rules[at]],
    ]
    for to in range(len(rules) - 1):
        if rules[to].state != rules[to + 1].state:
            made.append(rules[:to] + [rules[to + 1], rules[to]] + rules[to + 2:])
    return [Book.of(each) for each in made]


def end(system, start):
    """Return the end of an address as a tuple, or None."""
    told = end_of(system, start)
    return None if told is None else (told[0].state, told[0].path)


class ComparingTest(unittest.TestCase):

    def assert_compared(self, one, other):
        """What the functions tell of two systems goes with the ends of all short addresses; return whether alike."""
        short = {"parted": None, "more": None, "less": None}
        states = sorted(set(one.states) | set(other.states) | {"other"})
        for path, state in itertools.product(SHORT, states):
            start = Address(state, path)
            told, right = end(one, start), end(other, start)
            if told != right:
                for name, wanted in (("parted", True), ("more", told is not None), ("less", right is not None)):
                    if wanted and short[name] is None:
                        short[name] = len(path)
        told = {"parted": parted(one, other), "more": more_in(one, other), "less": more_in(other, one)}
        for name, start in told.items():
            if start is None:
                self.assertIsNone(short[name])
                continue
            self.assertEqual(len(start), len(start) if short[name] is None else short[name])
            self.assertTrue(short[name] is not None or len(start) > 3)
            self.assertNotEqual(end(one, start), end(other, start))
            self.assertIsNotNone({"parted": "", "more": end(one, start), "less": end(other, start)}[name])
        alike = told["parted"] is None
        self.assertIs(are_alike(other, one), alike)
        self.assertIs(tells_no_more(one, other), told["more"] is None)
        self.assertIs(told["more"] is None and told["less"] is None, alike)
        return alike

    def test_alike_by_making(self):
        rng = random.Random(3)
        for seed in range(12):
            one = drawn_book(seed)
            for other in alike_books(one, rng):
                self.assertTrue(self.assert_compared(one, other))

    def test_changed_in_one_place(self):
        found = {True: 0, False: 0}
        for seed in range(25):
            one = drawn_book(seed)
            for other in changed_books(seed, one.rules, 3):
                found[self.assert_compared(one, other)] += 1
        self.assertGreater(found[True], 10)
        self.assertGreater(found[False], 10)

    def test_chains(self):
        for seed in range(9):
            one, chain = drawn_book(seed), drawn_chain(seed, 2 + seed % 3, 2, 2, 4)
            self.assert_compared(one, chain)
            self.assert_compared(chain, drawn_chain(seed + 1, 2, 2, 2, 4))
            self.assertTrue(self.assert_compared(one, one + Book()))
            self.assertTrue(self.assert_compared(Book() + one, one + one))
            self.assertTrue(self.assert_compared(chain, Chain.of([each.copied() for each in chain.books])))
            first, *rest = chain.books
            self.assertTrue(self.assert_compared(chain, Chain(exchanged_book(first), *rest)))

    def test_a_chain_in_the_place_of_a_book(self):
        # Two steps of one book are one step of each of two books.
        one = book("s /a/.. to t /..", "t /1/2/.. to u /2/1/..")
        self.assertTrue(self.assert_compared(one, Chain(book("s /a/.. to t /.."), book("t /1/2/.. to u /2/1/.."))))
        self.assertFalse(self.assert_compared(one, Chain(book("t /1/2/.. to u /2/1/.."), book("s /a/.. to t /.."))))

    def test_by_hand(self):
        self.assertIsNone(parted(DROP, DROP | Rule("s", (1,))))
        self.assertEqual(len(parted(DROP, DROP.without(0))), 2)
        self.assertEqual((tells_no_more(TURNING, Book()), tells_no_more(Book(), TURNING)), (True, False))
        self.assertEqual((len(more_in(Book(), TURNING)), more_in(TURNING, Book())), (1, None))
        self.assertEqual(parted(one=Book(), other=TURNING).state, "t")
        self.assertIsNone(more_in(one=Book(), other=Book()))
        self.assertEqual((are_alike(one=DROP, other=DROP), tells_no_more(one=DROP, other=DROP)), (True, True))
        self.assertEqual(parted(book("s / to t /"), Book()), address("s:"))
        self.assertEqual(len(parted(book("s /1/1/.. stays", "s /1/2 to t /"), Book())), 2)
        self.assertEqual(len(parted(book("s /1/2/.. to s /1/..", "s /a to t /"), book("s /1/2/.. to s /1/.."))), 1)
        late = parted(book("s /1/2 stays", "s /1/2/.. to t /1/2/.."), Book())
        self.assertEqual((late.state, len(late)), ("s", 3))

    def test_dropping_from_the_front_and_from_behind(self):
        first, last = book("s /1/2/.. to s /1/.."), book("s /1/2/.. to s /2/..")
        self.assertFalse(self.assert_compared(first, last))
        gone = book("s /1/.. to s /..")
        self.assertTrue(self.assert_compared(Chain(first, gone), Chain(last, gone)))
        self.assertTrue(self.assert_compared(Chain(first, gone), gone))

    def test_late_differences(self):
        # The segments are counted by states, and only the last count tells.
        states = "stuvwx"
        rules = [Rule(one, ("a",), (other, ())) for one, other in zip(states, states[1:])]
        one, other = Book(*rules, Rule("x", ("b",), ("x", ()))), Book(*rules, Rule("x", ("b",), ("s", ())))
        start = parted(Chain(one, Book()), Chain(other, Book()))
        self.assertEqual((start.path, start.state), (("b",), "x"))
        again = [Rule("s", (), ("t", ()), is_exact=True)]
        told = parted(Book.of(again + rules[:4]), Book.of(rules[:4]))
        self.assertEqual(told, address("s:"))

    def test_many_stands_beside_one(self):
        # All begin in the state s; only the fourth of four segments may be another one.
        back = book("t /.. to s /..", "u /.. to s /..", "v /.. to s /..", "w /.. to s /..")
        count = book("s /1/.. to t /..", "t /1/.. to u /..", "u /1/.. to v /..", "v /a/.. to w /..", "v /1/.. to s /..")
        same = book("t / to s /", "u / to s /", "v / to s /")
        one, other = Chain(back, book("s /1/.. to s /..")), Chain(back, count, same)
        self.assertEqual(len(parted(one, other)), 4)
        self.assertEqual((parted(other, one).state, parted(other, one).path[3]), ("s", "a"))
        self.assertEqual((len(more_in(one, other)), len(more_in(other, one))), (4, 4))
        alike = Chain(back, count, same, book("w /1/.. to w /..", "w / to s /"))
        self.assertEqual(end_of(alike, address("s:/b/b/b/a/b/b")), (address("s:"), 7))
        self.assertIsNone(parted(one, alike))
        self.assertIsNone(parted(alike, one))

    def test_one_never_settles_and_the_other_settles_later(self):
        rules = ("t /1/2/.. to v /2/..", "v /1/2/.. to w /2/..", "w /1/2/.. to z /2/..", "z /a/.. stays",
                 "v /1/.. to v /1/..", "w /1/.. to w /1/..", "z /1/.. to z /1/..")
        one, other = book("s /1/2/.. to s /1/2/..", *rules), book("s /1/2/.. to t /1/2/..", *rules)
        self.assertEqual([len(parted(one, other)), len(parted(other, one)), len(more_in(other, one))], [4, 4, 4])
        self.assertEqual((more_in(other, one).state, more_in(other, one).path[3]), ("s", "a"))
        self.assertIsNone(more_in(one, other))

    def test_a_settled_system_beside_one_that_never_settles_for_long(self):
        # At the end of each path the first never settles, whatever has been read; so nothing is lost.
        reading = book("s / to s /", "s /1 to s /1", "s /1/2/.. to s /2/..")
        self.assertIsNone(more_in(reading, Book()))
        self.assertIsNone(more_in(reading, book("s /1/.. to t /1/1/..")))
        self.assertEqual(more_in(Book(), reading), address("s:"))
        # The first forgets the first segment, and then tells it to be a.
        rules = ("t /1 to t /1", "t /1/2 to t /1/2", "t /z/.. to q /a/z/..", "t /1/.. to t /1/..")
        one = book("s / to s /", "s /1 to s /1", "s /1/2/.. to t /2/..", *rules)
        told = more_in(one, book("s /.. to q /..", *rules))
        self.assertEqual((told.state, len(told), told.path[1], told.path[0] == "a"), ("s", 4, "z", False))
        told = more_in(one, book("s /1/.. to q /a/..", *rules))
        self.assertIsNone(told)

    def test_endings_of_settled_and_reading_systems(self):
        # The first settles at once, the second goes through all of the path to tell the same.
        through = book("s /a/1/.. to t /a/..", "t /a/1/.. to t /a/..", "t /a to u /")
        self.assertFalse(self.assert_compared(Book(), through))
        self.assertFalse(self.assert_compared(through, Chain(Book(), through, book("u / to v /"))))
        swallow = book("s /1/.. to s /..")
        self.assertEqual(len(parted(Book(), swallow)), 1)
        self.assertEqual(len(parted(book("s /1/.. to t /1/.."), swallow)), 1)

    def test_very_many_steps_beside_one_step(self):
        # The frame of two words is dropped at once, or after 2 ** 36 - 1 steps.
        self.assertEqual(end_of(LEVELS, address("s:/a/a")), (address("s:"), 2 ** 36 - 1))
        for text in ("s /a/a/.. to s /..", "s /a/a to s /", "s /a/b/.. to s /a/c/a/c/..", "s /1/a/.. to s /1/b/1/b/.."):
            self.assertIsNone(parted(Chain(book(text), LEVELS), LEVELS))
        for text in ("s /a/a/.. to t /..", "s /a/a to t /", "s /1/a to s /a"):
            self.assertEqual(len(parted(Chain(book(text), LEVELS), LEVELS)), 2)
        self.assertEqual(len(parted(LEVELS, book("s /a/a/.. to s /.."))), 2)

    def test_words_that_one_book_does_not_name(self):
        one = book("s /1/2/.. to t /2/1/..")
        other = book("s /a/a/.. to t /a/a/..", "s /a/1/.. to t /1/a/..", "s /1/2/.. to t /2/1/..")
        self.assertTrue(self.assert_compared(one, other))
        wrong = book("s /a/a/.. to t /a/a/..", "s /a/1/.. to t /a/1/..", "s /1/2/.. to t /2/1/..")
        self.assertFalse(self.assert_compared(one, wrong))

    def test_signatures(self):
        for name in ("parted", "pairs", "are_alike", "tells_no_more", "more_in"):
            function = getattr(comparing, name)
            self.assertEqual(str(inspect.signature(function)), "(one, other)")
            self.assertEqual(function.__module__, comparing.__name__)
        self.assertEqual(str(inspect.signature(is_pairs)), "(one, other, value)")


def exchanged_book(one):
    """Return a book with the holes of all rules exchanged."""
    return Book.of([exchanged(rule) for rule in one.rules])


def alike_pairs():
    """Return pairs of equivalent books with a closed set of each, not too long."""
    rng = random.Random(4)
    made = [(DROP, DROP), (DROP, DROP | Rule("s", (1,))), (Book(), book("s / stays")), (TURNING, TURNING)]
    made.append((book("s /1/1/.. to t /1/.."), book("s /2/2/.. to t /2/..", "u / stays")))
    ring = "t /1/.. to t /1/.."
    made.append((book("s /1/2/.. to s /1/2/..", ring), book("s /1/2/.. to t /2/..", ring)))
    for seed in range(10):
        one = drawn_book(seed, 2, 1, 4)
        made += [(one, other) for other in alike_books(one, rng)[:2]]
    told = [(one, other, pairs(one, other)) for one, other in made]
    return [each for each in told if len(each[2]) < 30]


class PairsTest(unittest.TestCase):

    def test_pairs_are_a_closed_set(self):
        for one, other, told in alike_pairs():
            self.assertIs(type(told), tuple)
            self.assertIs(is_pairs(one, other, told), True)
            self.assertIs(is_pairs(one=one, other=other, value=told[::-1]), True)
            shuffled = list(told)
            random.Random(1).shuffle(shuffled)
            self.assertIs(is_pairs(one, other, tuple(shuffled)), True)

    def test_not_equivalent(self):
        self.assertIsNone(pairs(one=DROP, other=DROP.without(0)))
        for seed in range(30):
            one = drawn_book(seed)
            for other in changed_books(seed, one.rules, 2):
                self.assertEqual(pairs(one, other) is None, parted(one, other) is not None)
                if pairs(one, other) is None:
                    mine = pairs(one, one)
                    self.assertIs(is_pairs(one, one, mine), True)
                    self.assertIs(is_pairs(one, other, mine), False)

    def test_without_rules(self):
        self.assertEqual(pairs(Book(), Book()), ())
        self.assertIs(is_pairs(Book(), Book(), ()), True)
        self.assertIs(is_pairs(Book(), Book(), []), False)
        self.assertIs(is_pairs(DROP, DROP, ()), False)

    def test_by_hand(self):
        told = ((STANDS, STANDS),)
        self.assertIs(is_pairs(book("s /.. stays"), book("s /.. stays"), told), False)
        settled = ("settled", "s", ())
        one = book("s / stays")
        path = [
            (("on", "s", ()), settled), (("on", "s", (1,)), ("settled", "s", (1,))),
            (("on", "s", (1, 1)), ("settled", "s", (1, 1))), (("on", "s", (1, 2)), ("settled", "s", (1, 2))),
            (("settled", "s", (1, 1, 1)), ("settled", "s", (1, 1, 1))),
            (("settled", "s", (1, 1, 2)), ("settled", "s", (1, 1, 2))),
            (("settled", "s", (1, 2, 1)), ("settled", "s", (1, 2, 1))),
            (("settled", "s", (1, 2, 2)), ("settled", "s", (1, 2, 2))),
            (("settled", "s", (1, 2, 3)), ("settled", "s", (1, 2, 3))),
        ]
        self.assertIs(is_pairs(one, Book(), tuple(path)), True)
        for at in range(len(path)):
            self.assertIs(is_pairs(one, Book(), tuple(path[:at] + path[at + 1:])), False)
        # Right pairs that nothing leads to do no harm; others do.
        more = (("settled", "zzz", (1, 1)), ("settled", "zzz", (1, 1)))
        self.assertIs(is_pairs(one, Book(), tuple(path) + (more,)), True)
        self.assertIs(is_pairs(one, Book(), tuple(path) + ((("never",), ("never",)),)), True)
        self.assertIs(is_pairs(one, Book(), tuple(path) + (more, more)), False)
        for wrong in (
            (("settled", "zzz", (1, 1)), ("settled", "zzz", (1, 2))), (("settled", "z", ()), ("settled", "s", ())),
            (("settled", "zzz", (2,)), ("settled", "zzz", (2,))), (("settled", "zzz", ("a",)), ("settled", "zzz", ("a",))),
            (("settled", "Z", ()), ("settled", "Z", ())), (("never",), settled), (settled, ("never",)),
            (("never",), ("never",), ("never",)), (settled,), (settled, settled, settled), ("never", "never"),
            (("on", "s", (1, 2, 3)), ("settled", "s", (1, 2, 3))), (("on", "t", ()), ("settled", "t", ())),
            (settled, STANDS), (("settled", "s", (True,)), ("settled", "s", (True,))),
            (("settled", "s", [1]), ("settled", "s", [1])), (("settled", "s", (0,)), ("settled", "s", (0,))),
            (("settled", "s", (None,)), ("settled", "s", (None,))), (("settled", "s"), ("settled", "s")),
        ):
            with self.subTest(wrong=wrong):
                self.assertIs(is_pairs(one, Book(), tuple(path) + (wrong,)), False)

    def test_one_book_never_settles_and_the_other_still_reads(self):
        ring = "t /1/.. to t /1/.."
        one, other = book("s /1/2/.. to s /1/2/..", ring), book("s /1/2/.. to t /2/..", ring)
        told = pairs(one, other)
        self.assertIn((("never",), ("on", "t", (1, 2))), told)
        self.assertIn((("never",), ("never",)), told)
        self.assertIs(is_pairs(one, other, told), True)
        self.assertIs(is_pairs(other, one, pairs(other, one)), True)
        less = tuple(pair for pair in told if pair != (("never",), ("never",)))
        self.assertIs(is_pairs(one, other, less), False)

    def test_one_pair_otherwise(self):
        for one, other, told in alike_pairs():
            for at, (first, second) in enumerate(told):
                rest = told[:at] + told[at + 1:]
                # A pair may only be left out if nothing leads to it, and then it is not found.
                self.assertIs(is_pairs(one, other, rest), False)
                self.assertIs(is_pairs(one, other, told + (told[at],)), False)
                for wrong in self.wrong_pairs(first, second):
                    if wrong not in told or repr(wrong) not in [repr(pair) for pair in told]:
                        self.assertIs(is_pairs(one, other, told[:at] + (wrong,) + told[at + 1:]), False)

    def wrong_pairs(self, first, second):
        """Return some values in the place of a pair."""
        made = [None, (), (first,), (first, second, second), [first, second], (list(first), second),
                (first, list(second)), (first, None), ("on", "s"), {"a": first}, (first, ("never",)), (("never",), second)]
        for view in (first, second):
            if len(view) == 3:
                kind, state, signs = view
                for other in (
                    (kind, state, list(signs)), (kind, state), (kind, state, signs, 0), (kind, state, signs + (99,)),
                    (kind, state, None), (kind, state, 1), (kind, state, "ab"), (kind, state, {}), (kind, state, signs + ("q",)),
                    (kind, state + "z", signs), (kind, None, signs), (None, state, signs), ("off", state, signs),
                    (kind, state, tuple(sign + 1 if isinstance(sign, int) else sign for sign in signs) + (7,)),
                    (kind, state, tuple(True if sign == 1 else sign for sign in signs) + (1.0,)),
                ):
                    made += [(other, second), (first, other)]
        if len(first) == 3 and 1 in first[2]:
            made.append(((*first[:2], tuple(True if sign == 1 else sign for sign in first[2])), second))
        return made

    def test_true_for_one(self):
        told = pairs(DROP, DROP)
        for at, (first, second) in enumerate(told):
            if len(first) == 3 and 1 in first[2]:
                wrong = ((*first[:2], tuple(True if sign == 1 else sign for sign in first[2])), second)
                value = told[:at] + (wrong,) + told[at + 1:]
                self.assertEqual(value, told)
                self.assertIs(is_pairs(DROP, DROP, value), False)

    def test_any_values(self):
        for value in NO_WORDS + (DROP, nested(20), ((),), (None,), ("on",), (((),),), {(): ()}, (DROP, DROP), ("ab", "cd"),
                                 ((("never",), ("never",)), None), [(STANDS, STANDS)]):
            if value != ():
                with self.subTest(value=repr(value)):
                    self.assertIs(is_pairs(DROP, DROP, value), False)
                    self.assertIs(is_pairs(Book(), Book(), value), False)

    def test_the_form_of_pairs(self):
        for one, other, told in alike_pairs():
            named = set(one.words) | set(other.words)
            starts = [{rule.state for rule in each.rules} for each in (one, other)]
            for pair in told:
                self.assertEqual((type(pair), len(pair)), (tuple, 2))
                signs = []
                for view, states in zip(pair, starts):
                    self.assertIs(type(view), tuple)
                    self.assertIn(view[0], ("on", "settled", "never"))
                    if view[0] == "on":
                        self.assertIn(view[1], states)
                        self.assertLessEqual(len(view[2]), 2)
                    signs += view[2] if len(view) == 3 else ()
                found = list(dict.fromkeys(sign for sign in signs if isinstance(sign, int)))
                self.assertEqual(found, list(range(1, len(found) + 1)))
                self.assertLessEqual({sign for sign in signs if isinstance(sign, str)}, named)


if __name__ == "__main__":
    unittest.main()

"""Flat lists, and the checking of them: [3], [40] and the interface of flat.py."""

import inspect
import itertools
import random
import unittest

from sentonward import flat as module
from sentonward.addresses import Address
from sentonward.books import Book, Chain
from sentonward.deciding import readings
from sentonward.ends import end_of, never_settles
from sentonward.errors import Barred, InvalidRule, TooMany, Unsettled
from sentonward.flat import FlatRule, flat, flat_end, is_flat
from sentonward.longest import is_longest, longest
from sentonward.rules import Rule
from sentonward.stands import whole_graph
from sentonward.tables import value_of
from tests import naive
from tests.drawn import DROP, book, drawn_book, drawn_chain
from tests.test_ends import GROWING, TURNING
from tests.test_tables import LEVELS
from tests.values import NO_WORDS, nested

DRAWN = [drawn_book(seed, 3, 2, 5) for seed in range(160)] + [
    drawn_chain(seed, books, 2, 2, 3) for seed in range(30) for books in (2, 3)
]

# What takes one to four segments away, compares far segments, exchanges and doubles; with the number of readings.
BY_HAND = (
    (Book(), 0), (book("s /.. stays"), 1), (book("s /.. to t /.."), 1), (book("s / to t /"), 2), (book("s /1/.. to t /.."), 2),
    (book("s /a to t /"), 5), (book("s /a/.. to t /.."), 3), (book("s /1/2/.. to t /2/1/.."), 4),
    (book("s /1/1/.. to t /1/.."), 4), (book("s /1/.. to t /1/1/.."), 2), (book("s /1/2/.. to t /.."), 4),
    (book("s /1/2/.. to t /..", "t /1/.. to u /.."), 11), (book("s /1/2/.. to t /..", "t /1/2/.. to u /.."), 23),
    (book("s /a/b/.. to t /..", "t /a/b/.. to u /.."), None), (book("s /1/2/.. to t /1/..", "t /1/1/.. to u /.."), None),
    (book("s /1/2/.. to t /1/..", "t /1/2/.. to u /1/..", "u /1/1/.. to v /..", "u /1/2/.. to w /1/2/.."), 35),
    (book("s /1/2/.. to t /2/1/1/2/..", "t /1/1/.. to u /.."), 8), (book("s /1/2 to t /2/1", "t /a/1 to u /1"), None),
    (book("s /a/1/.. to t /b/1/1/..", "t /b/a/.. to u /.."), 14), (book("s / stays", "s /a/.. stays", "t /.. stays"), 2),
    (Chain(book("s /1/.. to t /.."), book("t /1/.. to u /.."), book("u /1/.. to v /..")), None),
    (Chain(book("s /1/2/.. to t /1/.."), book("t /1/2/.. to u /1/.."), book("u /1/1/.. to v /..")), None),
    (Chain(Book(), Book()), 0), (Chain(book("s /1/2/.. to t /2/1/.."), book("t /1/2/.. to s /2/1/..")), None),
    (Chain(book("s /a/.. to t /b/..", "t /.. stays"), book("t /b/.. to s /a/.."), Book(), book("s /a/.. to u /..")), None),
    (Chain(book("s /1/2/.. to t /2/.."), book("t /1/1/.. to u /1/..", "v / to s /a")), None),
)

HUNDRED = book(*[f"{state} /{word}/1/.. to t /1/.." for state in "su" for word in "abcdef"])
HUNDRED_AND_ONE = book("s /1/a/.. to t /1/..", *[f"u /{word}/1/.. to t /1/.." for word in "bcdef"])

MANY = (
    HUNDRED_AND_ONE, HUNDRED + book("v /.. stays"), book("v /.. stays") + HUNDRED,
    book(*[f"{state} /1/{word} to z /" for state, word in zip("stuvw", "abcde")], "z / stays"),
)


def ended_flat(system, rules, most=3, words=("x", "y")):
    """Return a short address whose end a list of rules does not tell, by followed runs, or None."""
    books = naive.plain(system)
    named = sorted({*system.words, *words} | {word for rule in rules for word in rule.words})
    states = sorted({*system.states, "other"} | {rule.state for rule in rules})
    for path, state in itertools.product(naive.paths(named, most), states):
        told = flat_end(rules, Address(state, path))
        if naive.end(books, (state, path))[0] != (told.state, told.path):
            return state, path
    return None


def flattened():
    """Return (system, list) for the drawn systems, and those by hand, that have a flat list."""
    told = []
    for system in DRAWN + [system for system, _ in BY_HAND]:
        try:
            told.append((system, flat(system)))
        except (Unsettled, Barred, TooMany):
            continue
    return told


FLATTENED = flattened()


def read(one, state, signs):
    """Read signs as [21] says; return ("on", hand), or ("settled", state, signs)."""
    if state not in [rule.state for rule in one.rules]:
        return "settled", state, signs
    hand = ()
    for at, sign in enumerate(signs):
        if len(hand) < 2:
            hand = (*hand, sign)
            continue
        held = list(dict.fromkeys(each for each in (*hand, sign) if each not in one.words))
        row = [held.index(each) + 1 if each in held else each for each in (*hand, sign)]
        value = value_of(one, (state, tuple(row[:2]), row[2]))
        made = tuple(held[each - 1] if isinstance(each, int) else each for each in value[2])
        if value[0] == "settled":
            return "settled", value[1], made + signs[at + 1:]
        state, hand = value[1], made
    return "on", hand


def hand_of(system, state, signs):
    """Return the hand of the book that reads behind some signs, or None if all books have settled."""
    for one in system.books if isinstance(system, Chain) else [system]:
        told = read(one, state, signs)
        if told[0] == "on":
            return told[1]
        _, state, signs = told
    return None


def decides(system, state, signs, most):
    """Return whether all paths that begin with signs have the end that these decide, as far as they are followed."""
    books, path = naive.plain(system), tuple(f"z{'abcdefghi'[sign]}" if isinstance(sign, int) else sign for sign in signs)
    (goal, beginning), _ = naive.end(books, (state, path))
    words = sorted({*system.words, *path, "x", "y"})
    return all(naive.end(books, (state, path + rest))[0] == (goal, beginning + rest) for rest in naive.paths(words, most))


def readings_counted(system, most):
    """Return the number of readings, followed as [40] says it."""
    parts = system.books if isinstance(system, Chain) else [system]
    waiting = [(state, ()) for state in sorted({rule.state for one in parts for rule in one.rules})]
    count = 0
    while waiting:
        state, signs = waiting.pop()
        count += 1
        if not decides(system, state, signs, most):
            integers = [sign for sign in signs if isinstance(sign, int)]
            held = {sign for sign in hand_of(system, state, signs) if isinstance(sign, int)}
            waiting += [(state, (*signs, sign)) for sign in [*system.words, *held, max(integers, default=0) + 1]]
    return count


class FlatTest(unittest.TestCase):

    def test_lists_replace_their_systems(self):
        found = 0
        for system, told in FLATTENED:
            self.assertIs(type(told), list)
            self.assertTrue(all(isinstance(rule, FlatRule) for rule in told))
            self.assertIsNone(ended_flat(system, told))
            self.assertIs(is_flat(system, told), True)
            found += len(told) > 3
        self.assertGreater(found, 15)

    def test_longer_paths(self):
        for system, told in FLATTENED:
            rng = random.Random(repr(system.words))
            most = max([len(rule.pattern) for rule in told], default=0)
            words = [*system.words, "x", "y", "z"]
            for _ in range(30):
                one = Address(rng.choice([*system.states, "other"]), [rng.choice(words) for _ in range(rng.randint(3, most + 5))])
                self.assertEqual(flat_end(told, one), end_of(system, one)[0])

    def test_no_rule_can_be_removed(self):
        seen = missed = 0
        for system, told in FLATTENED:
            for at in range(len(told)):
                rest = told[:at] + told[at + 1:]
                self.assertIs(is_flat(system, rest), False)
                lost = ended_flat(system, rest) or ended_flat(system, rest, 4, ("x", "y", "z"))
                seen, missed = seen + 1, missed + (lost is None)
        self.assertGreater(seen, 150)
        self.assertLess(missed, 5)

    def test_which_systems_have_a_list(self):
        told = {"flat": 0, "never": 0, "more": 0}
        for system in DRAWN:
            never, run = never_settles(system), longest(system)
            try:
                flat(system)
                self.assertEqual((never, run[0]), (None, "most"))
                told["flat"] += 1
            except Unsettled as error:
                self.assertIsNone(end_of(system, error.address))
                self.assertEqual(len(error.address), len(never))
                told["never"] += 1
            except Barred as error:
                self.assertIsNone(never)
                self.assertIs(type(error.value), tuple)
                self.assertEqual(error.value[0], "more")
                self.assertIs(is_longest(system, error.value), True)
                told["more"] += 1
        self.assertGreater(min(told.values()), 10)

    def test_the_order_of_errors(self):
        many = [rule.text() for rule in HUNDRED_AND_ONE.rules]
        with self.assertRaises(Unsettled) as caught:
            flat(book(*many, "t /1/1/.. to t /1/1/..", "v /1/.. to v /.."))
        self.assertEqual((caught.exception.address.state, len(caught.exception.address)), ("t", 2))
        with self.assertRaises(Barred):
            flat(book(*many, "t /1/2 stays", "v /1/.. to v /.."))
        with self.assertRaises(Unsettled):
            flat(Chain(DROP, GROWING))
        with self.assertRaises(Barred):
            flat(Chain(DROP, Book()))
        for error, system in ((Unsettled, TURNING), (Unsettled, GROWING), (Barred, DROP), (TooMany, HUNDRED_AND_ONE)):
            with self.assertRaises(error):
                flat(system=system)

    def test_by_hand(self):
        def texts(system):
            return [rule.text() for rule in flat(system)]
        self.assertEqual((texts(Book()), texts(Book() + Book()), texts(book("s /.. stays"))), ([], [], []))
        self.assertEqual(texts(book("s / stays", "s /a/.. stays", "t /a stays")), [])
        for system in (book("s /.. to t /.."), book("s /1/.. to t /.."), book("s / to t /"), book("s /a/b/.. to t /.."),
                       book("s /1/1/.. to t /1/.."), book("s /1/2/.. to t /2/1/.."), book("s /a to t /x")):
            told = flat(system)
            self.assertEqual(len(told), 1)
            self.assertIsNone(ended_flat(system, told))
        self.assertEqual(len(texts(book("s /1/2/.. to t /..", "t /1/2/.. to u /.."))), 4)
        # A rule that lets addresses stay keeps them from the next one.
        stays = ["s /a/.. stays", "s /1/.. to t /.."]
        self.assertEqual((texts(book(*stays)), texts(book(*stays[::-1]))), (stays, stays[1:]))
        self.assertEqual(texts(book("s /1/1 stays", "s /1/2/.. to t /..")), ["s /1/1 stays", "s /1/2/.. to t /.."])
        chain = Chain(book("s /1/2/.. to t /2/1/.."), book("t /1/2/.. to s /2/1/.."))
        self.assertEqual([len(rule.pattern) for rule in flat(chain)], [2])
        # The second book undoes what the first one does, but for the state.
        again = Chain(book("s /1/2/.. to t /2/1/.."), book("t /1/2/.. to s /2/1/.."), book("t /.. to u /.."))
        self.assertIsNone(ended_flat(again, flat(again)))
        # Far segments are compared: the first with the fourth.
        system = BY_HAND[15][0]
        self.assertIn((1, 2, 3, 1), [rule.pattern for rule in flat(system)])

    def test_numbers_of_readings(self):
        for system, count in BY_HAND:
            told = readings_counted(system, 3)
            self.assertIn(count, (None, told))
            self.assertEqual(len(readings(whole_graph(system))), told)
        for system, _ in FLATTENED:
            told = len(readings(whole_graph(system)))
            if told < 50:
                self.assertEqual(readings_counted(system, 3), told)

    def test_a_hundred_readings(self):
        self.assertEqual(len(readings(whole_graph(HUNDRED))), 100)
        told = flat(HUNDRED)
        self.assertIs(is_flat(HUNDRED, told), True)
        self.assertIsNone(ended_flat(HUNDRED, told, 2))
        self.assertEqual(len(flat(HUNDRED + Book())), len(told))
        for system in MANY:
            with self.assertRaises(TooMany) as caught:
                flat(system)
            self.assertEqual(caught.exception.limit, 100)
        # One named word less, and there are fewer.
        less = Book.of([rule for rule in HUNDRED_AND_ONE.rules if "f" not in rule.words])
        self.assertIs(is_flat(less, flat(less)), True)

    def test_very_many_steps(self):
        once = [rule.text() for rule in LEVELS.rules[:-1]]
        exact = book(*[text.replace("/..", "") for text in once if "/1/" not in text], "s /f/f to t /")
        self.assertIs(is_flat(exact, flat(exact)), True)
        with self.assertRaises(Barred):
            flat(LEVELS)

    def test_signatures(self):
        self.assertEqual(str(inspect.signature(flat)), "(system)")
        self.assertEqual(str(inspect.signature(is_flat)), "(system, value)")
        self.assertEqual((flat.__module__, is_flat.__module__), (module.__name__, module.__name__))


class SmallBooksTest(unittest.TestCase):
    """Books of one to three rules."""

    def test_by_hand(self):
        one = Book(Rule("s", (1, 1), ("t", ("a",))))
        self.assertIs(is_flat(one, [FlatRule("s", (3, 3), ("t", ("a",)))]), True)
        self.assertEqual([rule.text() for rule in flat(one)], ["s /1/1/.. to t /a/.."])
        for rule, right in (
            (FlatRule("s", (3, 3), ("t", ("b",))), False), (FlatRule("s", (3, 4), ("t", ("a",))), False),
            (FlatRule("s", (3, 3), ("t", ("a",)), is_exact=True), False), (FlatRule("t", (3, 3), ("t", ("a",))), False),
            (FlatRule("s", (1, 1), ("t", ("a",))), True), (FlatRule("s", ("a", "a"), ("t", ("a",))), False),
        ):
            self.assertIs(is_flat(one, [rule]), right)
        self.assertIs(is_flat(one, []), False)
        # The same book is asked again, and another one that is changed in between.
        self.assertEqual(flat(one), flat(one))
        one |= Rule("t", ("a",), ("u", ()))
        self.assertIs(is_flat(one, [FlatRule("s", (3, 3), ("t", ("a",)))]), False)
        self.assertIs(is_flat(one, flat(one)), True)
        one.take(0)
        self.assertEqual([rule.text() for rule in flat(one)], ["t /a/.. to u /.."])

    def test_drawn(self):
        found = {"flat": 0, Unsettled: 0, Barred: 0, TooMany: 0}
        for seed in range(150):
            one = drawn_book(f"few {seed}", 3, 2, 3)
            try:
                told = flat(one)
            except (Unsettled, Barred, TooMany) as error:
                found[type(error)] += 1
                if not isinstance(error, TooMany):
                    self.assertIs(is_flat(one, []), False)
                continue
            found["flat"] += 1
            self.assertIsNone(ended_flat(one, told))
            self.assertIs(is_flat(one, told), True)
            for at in range(len(told)):
                self.assertIs(is_flat(one, told[:at] + told[at + 1:]), False)
        self.assertGreater(min(found["flat"], found[Unsettled], found[Barred]), 15)

    def test_errors_of_three_rules(self):
        never, more = Rule("u", (1,), ("u", (1,))), Rule("v", (1,), ("v", ()))
        for rules, error in (([never], Unsettled), ([more], Barred), ([more, never], Unsettled), ([never, more], Unsettled)):
            one = Book.of([Rule("s", (1, 1), ("t", ("a",))), *rules])
            with self.assertRaises(error) as caught:
                flat(one)
            if error is Unsettled:
                self.assertEqual((caught.exception.address.state, len(caught.exception.address)), ("u", 1))
            else:
                self.assertIs(is_longest(one, caught.exception.value), True)
            for value in ([], None, [FlatRule("s", (3, 3), ("t", ("a",)))]):
                self.assertIs(is_flat(one, value), False)
        many = list(HUNDRED_AND_ONE.rules)
        for rules, error in ((many, TooMany), ([*many, never], Unsettled), ([*many, more], Barred), ([*many, more, never], Unsettled)):
            with self.assertRaises(error):
                flat(Book.of(rules))


def rules_of(*texts):
    """Return the list of the flat rules with some texts."""
    return [FlatRule.read(text) for text in texts]


def changed(told, rng):
    """Return a list of flat rules with one change."""
    told = list(told)
    at = rng.randrange(len(told))
    rule, way = told[at], rng.randrange(6)
    if way == 0:
        told.insert(rng.randrange(len(told) + 1), rule)
    elif way == 1:
        to = rng.randrange(len(told))
        told[at], told[to] = told[to], told[at]
    elif way == 2:
        told[at] = FlatRule(rule.state, rule.pattern, rule.goal, is_exact=not rule.is_exact)
    elif way == 3:
        goal = (rule.state, rule.pattern) if rule.goal is None else (rule.goal[0], rule.goal[1][1:])
        told[at] = FlatRule(rule.state, rule.pattern, goal, is_exact=rule.is_exact)
    elif way == 4:
        goal = None if rule.goal is None else (rule.goal[0], rule.goal[1] + ("a",))
        told.insert(rng.randrange(len(told) + 1), FlatRule(rule.state, rule.pattern + ("a",), goal, is_exact=rng.random() < 0.3))
    elif rule.pattern:
        to = rng.randrange(len(rule.pattern))
        pattern = rule.pattern[:to] + (rng.choice(("a", "x", 1, 2, 9)),) + rule.pattern[to + 1:]
        try:
            told[at] = FlatRule(rule.state, pattern, rule.goal, is_exact=rule.is_exact)
        except InvalidRule:
            del told[at]
    return told


class IsFlatTest(unittest.TestCase):

    def test_changed_lists(self):
        found = {True: 0, False: 0}
        for seed, (system, told) in enumerate(FLATTENED):
            rng = random.Random(f"changed {seed}")
            for _ in range(8 if told else 0):
                other = changed(told, rng)
                right = is_flat(system, other)
                lost = ended_flat(system, other)
                if right:
                    self.assertIsNone(lost)
                elif lost is None:
                    self.assertIsNotNone(ended_flat(system, other, 5, ("x", "y") if len(system.words) > 1 else ("x", "y", "z")))
                found[right] += 1
        self.assertGreater(found[True], 60)
        self.assertGreater(found[False], 100)

    def test_other_right_lists(self):
        for system, told in FLATTENED:
            stays = [FlatRule(state, (1, "a", 1)) for state in ("other", "zz")]
            for other in (
                told + told, [rule for rule in told for _ in range(2)], told + [FlatRule(rule.state, rule.pattern) for rule in told],
                stays + told, told + stays, told + [FlatRule("other", ())],
                [FlatRule(rule.state, rule.pattern, rule.goal or (rule.state, rule.pattern), is_exact=rule.is_exact) for rule in told],
                # A special case ahead that sends alike.
                [each for rule in told for each in (special(rule), rule)],
                [renamed(rule) for rule in told],
            ):
                self.assertIs(is_flat(system, other), True)

    def test_other_orders(self):
        one = book("s /a/.. to t /..", "u /1/.. to t /1/1/..", "s /b/1/.. to t /1/..")
        told = flat(one)
        for other in itertools.permutations(told):
            self.assertIs(is_flat(one, list(other)), True)
        two = book("s /a/1/.. to t /1/..", "s /1/2/.. to t /2/1/..")
        told = flat(two)
        self.assertEqual([is_flat(two, list(other)) for other in itertools.permutations(told)].count(True), 1)

    def test_by_hand(self):
        one = book("s /1/2/.. to t /1/..", "t /1/2/.. to u /1/..")
        right = rules_of("s /1/2 to t /1", "s /1/2/3/.. to u /1/..", "t /1/2/.. to u /1/..")
        self.assertIs(is_flat(one, right), True)
        self.assertIs(is_flat(one, right[::-1]), True)
        # No holes of other numbers make a difference, nor where they are compared.
        for texts, is_right in (
            (("s /7/5 to t /7", "s /9/2/1000/.. to u /9/..", "t /2/1/.. to u /2/.."), True),
            (("s /1/2/3/.. to u /1/..", "s /1/2/.. to t /1/..", "t /1/2/.. to u /1/.."), True),
            (("s /1/2/.. to t /1/..", "s /1/2/3/.. to u /1/..", "t /1/2/.. to u /1/.."), False),
            (("s /1/1 to t /1", "s /1/2 to t /1", "s /1/2/3/.. to u /1/..", "t /1/2/.. to u /1/.."), True),
            (("s /1/2/3/4/.. to u /1/4/..", "s /1/2 to t /1", "s /1/2/3/.. to u /1/..", "t /1/2/.. to u /1/.."), True),
            (("s /1/2/3/4/.. to u /1/..", "s /1/2 to t /1", "s /1/2/3/.. to u /1/..", "t /1/2/.. to u /1/.."), False),
            (("s /1/2/3 to u /1", "s /1/2/3/4 to u /1/4", "s /1/2 to t /1", "s /1/2/3/4/5/.. to u /1/4/5/..",
              "t /1/2/.. to u /1/.."), True),
            (("s /1/2/3 to u /1", "s /1/2/3/4/5 to u /1/4/5", "s /1/2 to t /1", "s /1/2/3/4/5/6/.. to u /1/4/5/6/..",
              "t /1/2/.. to u /1/.."), False),
            (("s /1/2 to t /1", "s /1/2/3/.. to u /1/..", "t /1/2/.. to u /2/.."), False),
            (("s /1/2 to t /1", "s /1/2/3/.. to t /1/..", "t /1/2/.. to u /1/.."), False),
            (("s /1/2 to t /1", "s /1/2/3/.. to u /1/..", "t /1/2/.. to u /1/..", "u /.. stays", "v /1/1 stays"), True),
            (("s /1/2 to t /1", "s /1/2/3/.. to u /1/..", "t /1/2/.. to u /1/..", "u /1/.. to u /1/.."), True),
            (("s /1/2 to t /1", "s /1/2/3/.. to u /1/..", "t /1/2/.. to u /1/..", "u /1/2/.. to u /2/1/.."), False),
            (("s /1/2 to t /1", "s /1/2/3/.. to u /1/..", "t /1/2/.. to u /1/..", "z /q/.. to z /p/.."), False),
            (("s /1/2 to t /1", "s /1/2/3/.. to u /1/..", "t /1/2/.. to u /1/..", "s / stays", "s /1 stays", "t /.. stays"), True),
            (("t /1/2/.. stays", "s /1/2 to t /1", "s /1/2/3/.. to u /1/..", "t /1/2/.. to u /1/.."), False),
            (("s /1/2 to t /1", "s /1/2/3 to u /1", "t /1/2/.. to u /1/.."), False),
        ):
            with self.subTest(texts=texts):
                self.assertIs(is_flat(one, rules_of(*texts)), is_right)

    def test_holes_that_come_again_far_behind(self):
        one = book("s /1/.. to t /1/1/..")
        right = rules_of("s /1/.. to t /1/1/..")
        for far in (2, 5, 12):
            between = "".join(f"/{hole}" for hole in range(2, far + 2))
            for last in ("1", str(far)):
                alike = rules_of(f"s /1{between}/{last}/.. to t /1/1{between}/{last}/..")
                other = rules_of(f"s /1{between}/{last}/.. to t /1/1{between}/{last}/a/..")
                exact = rules_of(f"s /1{between}/{last} to u /1/1{between}/{last}")
                self.assertIs(is_flat(one, alike + right), True)
                self.assertIs(is_flat(one, other + right), False)
                self.assertIs(is_flat(one, exact + right), False)
                self.assertIs(is_flat(one, right + other + exact), True)
                # What is equal may stand for each other.
                swap = rules_of(f"s /1{between}/1/.. to t /1/1{between}/1/..")
                self.assertIs(is_flat(one, swap + right), True)
        # A rule behind one that takes all but what lies far behind.
        tail = rules_of("s /1/2/3/4/5/1/.. to t /5/..", "s /1/.. to t /1/1/..")
        self.assertIs(is_flat(one, tail), False)
        self.assertIs(is_flat(one, rules_of("s /1/2/.. to t /1/1/2/..") + tail), True)
        self.assertIs(is_flat(one, rules_of("s /1/2/3/4/5 to t /1/1/2/3/4/5", "s /1/2/3/4/5/6 to t /1/1/2/3/4/5/6") + tail), False)

    def test_segments_that_are_compared(self):
        # The segments of a reading are different where a hand holds them, and may be equal elsewhere.
        one = book("s /1/1/.. to t /1/..", "s /1/2/.. to u /2/..", "u /1/2/.. to v /2/..")
        told = flat(one)
        self.assertIsNone(ended_flat(one, told, 4))
        right = rules_of("s /1/1/.. to t /1/..", "s /1/2 to u /2", "s /1/2/3/.. to v /3/..", "u /1/2/.. to v /2/..")
        self.assertIs(is_flat(one, right), True)
        for text, is_right in (
            ("s /1/1/2/.. to t /1/2/..", True), ("s /1/1/2/.. to v /2/..", False), ("s /1/2/1/.. to v /1/..", False),
            ("s /1/2/2/.. to v /2/..", False), ("s /a/b/a/.. to v /a/..", True), ("s /a/b/a/.. to v /b/..", False),
            ("s /a/a/.. to t /a/..", True), ("s /a/a/.. to t /b/..", False), ("s /1/a/1 to v /1", False),
            ("s /1/a/a to v /a", False), ("s /b/a/a to v /a", True), ("s /a/1/.. to t /a/..", False),
        ):
            with self.subTest(text=text):
                self.assertIs(is_flat(one, rules_of(text) + right), is_right)
        self.assertIs(is_flat(one, right[1:]), False)
        self.assertIs(is_flat(one, [right[0], right[2], right[1], right[3]]), True)

    def test_words_that_the_system_does_not_name(self):
        one = book("s /a/.. to t /..")
        right = rules_of("s /a/.. to t /..")
        self.assertIs(is_flat(one, right), True)
        for text, is_right in (
            ("s /q/.. stays", True), ("s /q/.. to s /q/..", True), ("s /q to t /q", False), ("s /q/.. to s /r/..", False),
            ("s /1/q/.. to t /q/..", False), ("s /a/q/.. to t /q/..", True), ("s /a/q to t /q", True), ("s /a/q to t /r", False),
            ("s /q/1/q/1/.. stays", True), ("s /1/q/.. stays", False), ("s /b/1/.. stays", True),
        ):
            with self.subTest(text=text):
                self.assertIs(is_flat(one, rules_of(text) + right), is_right)

    def test_values_of_other_kinds(self):
        one = book("s /a/.. to t /..")
        right = flat(one)
        for value in NO_WORDS + (
            tuple(right), (right,), [right], right[0], {"a": right}, [tuple(right)], right + [None], right + [1], right + ["s / stays"],
            right + [Rule("s", ())], [Rule("s", ("a",), ("t", ()))], Book(*one.rules), one, one + one, nested(20), [[]],
            {rule.text(): rule for rule in right}, right + [Book()], [right[0].text()], right + [True],
        ):
            with self.subTest(value=repr(value)):
                self.assertIs(is_flat(one, value), False)
        self.assertIs(is_flat(one, []), False)
        self.assertIs(is_flat(Book(), []), True)
        self.assertIs(is_flat(Book(), ()), False)
        self.assertIs(is_flat(value=[FlatRule("s", (1,))], system=Book()), True)
        self.assertIs(is_flat(Book(), [FlatRule("s", (1,), ("s", ()))]), False)

    def test_no_such_list_and_too_many_readings(self):
        for system in (DROP, TURNING, GROWING, DROP + Book(), book(*[rule.text() for rule in HUNDRED_AND_ONE.rules],
                                                                    "v /1/.. to v /..")):
            for value in ([], None, rules_of("s /1/1/.. to t /1/..")):
                self.assertIs(is_flat(system, value), False)
        for system in MANY:
            for value in NO_WORDS[:30] + ([], flat(HUNDRED), Rule("s", ()), [FlatRule("s", ())]):
                with self.assertRaises(TooMany) as caught:
                    is_flat(system, value)
                self.assertEqual(caught.exception.limit, 100)

    def test_the_value_stays_as_it_is(self):
        for system, told in FLATTENED[:20]:
            other = list(told)
            is_flat(system, told)
            self.assertEqual(told, other)
        long = flat(HUNDRED) * 30
        self.assertIs(is_flat(HUNDRED, long), True)
        self.assertEqual(len(long), 30 * len(flat(HUNDRED)))


def special(rule):
    """Return a rule that sends alike, for addresses with one segment more or none."""
    if rule.is_exact:
        return rule
    last = max([entry for entry in rule.pattern if isinstance(entry, int)], default=0) + 1
    goal = None if rule.goal is None else (rule.goal[0], rule.goal[1] + (last, "zz"))
    return FlatRule(rule.state, rule.pattern + (last, "zz"), goal)


def renamed(rule):
    """Return the rule with other numbers of its holes."""
    def other(entries):
        return [70 - entry if isinstance(entry, int) else entry for entry in entries]
    goal = None if rule.goal is None else (rule.goal[0], other(rule.goal[1]))
    return FlatRule(rule.state, other(rule.pattern), goal, is_exact=rule.is_exact)


if __name__ == "__main__":
    unittest.main()

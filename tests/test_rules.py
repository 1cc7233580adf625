"""Rules: [11], [12] and the interface of rules.py."""

import inspect
import itertools
import random
import unittest

from sentonward.addresses import Address
from sentonward.books import Book, Chain
from sentonward.errors import InvalidRule, InvalidText
from sentonward.rules import Rule
from tests import naive
from tests.drawn import drawn_rule
from tests.values import NO_STRINGS, NO_WORDS, ODD_STRINGS, WORDS, nested

# (state, pattern, goal, is_exact), the text, and the named words.
RULES = (
    ("s", (), None, False, "s /.. stays", ()),
    ("s", (), None, True, "s / stays", ()),
    ("s", (), ("s", ("a",)), True, "s / to s /a", ("a",)),
    ("s", (), ("s", ()), True, "s / to s /", ()),
    ("s", (), ("t", ()), False, "s /.. to t /..", ()),
    ("s", ("a",), ("t", ()), True, "s /a to t /", ("a",)),
    ("s", ("a",), ("t", ()), False, "s /a/.. to t /..", ("a",)),
    ("s", (1,), ("t", (1, 1, 1, 1)), False, "s /1/.. to t /1/1/1/1/..", ()),
    ("s", (2,), ("t", (2,)), False, "s /2/.. to t /2/..", ()),
    ("s", (2,), None, True, "s /2 stays", ()),
    ("s", (1, 1), ("t", (1,)), False, "s /1/1/.. to t /1/..", ()),
    ("s", (2, 2), ("t", (2, "z", 2, "b")), False, "s /2/2/.. to t /2/z/2/b/..", ("b", "z")),
    ("s", (1, 2), ("s", (2, 1)), True, "s /1/2 to s /2/1", ()),
    ("s", (2, 1), ("s", (1,)), False, "s /2/1/.. to s /1/..", ()),
    ("s", ("b", "a"), ("s", ("c", "a")), False, "s /b/a/.. to s /c/a/..", ("a", "b", "c")),
    ("s", ("b", 2), ("s", (2, "b", "ab")), False, "s /b/2/.. to s /2/b/ab/..", ("ab", "b")),
    ("web", (1, "old"), ("www", ("new", 1)), False, "web /1/old/.. to www /new/1/..", ("new", "old")),
    ("abcdefgh", ("zzzzzzzz", "m"), ("a", ()), False, "abcdefgh /zzzzzzzz/m/.. to a /..", ("m", "zzzzzzzz")),
    ("to", ("to",), ("stays", ("stays", "to")), False, "to /to/.. to stays /stays/to/..", ("stays", "to")),
    ("stays", ("stays",), None, False, "stays /stays/.. stays", ("stays",)),
)

NO_PATTERNS = tuple(value for value in NO_STRINGS if value not in ((), ("a",), [], ["a"])) + WORDS + ODD_STRINGS + (
    ("a", "b", "c"), (1, 1, 1), [1, 2, 1], [0], (3,), [-1], (1, 3), [True], (False, 1), (None,), ("A",), ("",),
    ("a", ""), [["a"]], ((1,),), [b"a"], {"a": 1}, ("a", "abcdefghi"), ("1",), ["a", {}], (1, nested(5)),
)

# Each with the pattern ("a", 1).
NO_GOALS = tuple(value for value in NO_STRINGS if value is not None) + WORDS + ODD_STRINGS + (
    ["t", ()], ["t", (1,)], ("t",), ("t", (), ()), ((), "t"), ("t", ()) * 2, ("T", ()), (None, ()), (1, ()), (True, ()),
    ("", ()), ("abcdefghi", ()), (b"t", ()), ("t", None), ("t", "a"), ("t", 1), ("t", {}), ("t", b"a"), ("t", (2,)),
    ("t", (1, 2)), ("t", (1, 1, 1, 1, 1)), ("t", ["a"] * 5), ("t", (0,)), ("t", (3,)), ("t", (True,)), ("t", (None,)),
    ("t", ("A",)), ("t", ("",)), ("t", ("1",)), ("t", (("a",),)), (("t", ()),), {"t": ()},
)

NO_BOOLS = (1, 0, None, "True", "", "a", (), [], (True,), [False], b"", {}, 2, Address("a"))

NOT_OF_THE_FORM = (
    "", " ", "s", "s ", "s  stays", " / stays", "s / ", "s /", "s/ stays", "s / stays ", " s / stays", "s  / stays",
    "s /  stays", "s\n/ stays", "s / stays\n", "s\t/ stays", "s / stay", "s / Stays", "s / stays stays", "s / to",
    "s / to t", "s / to t ", "s / to t / stays", "s / to t / to u /", "s / to  t /", "s / to t  /", "s / too t /",
    "s / t /", "/ stays", "s stays", "s a stays", "s a/ stays", "s /a/ stays", "s //a stays", "s // stays",
    "s /a//b stays", "s /. stays", "s /... stays", "s .. stays", "s ../ stays", "s /../ stays", "s /../.. stays",
    "s /../a stays", "s /a/../b stays", "s /a.. stays", "s /a/... stays", "s //.. stays", "s /a/b/../.. stays",
    "s /A stays", "s /abcdefghi stays", "s /0 stays", "s /3 stays", "s /12 stays", "s /-1 stays", "s /01 stays",
    "s /1a stays", "s /a1 stays", "s /\u00b9 stays", "s /\u0661 stays", "s /a b stays", "S / stays", "1 / stays",
    "abcdefghi / stays", "s /a to t /..", "s /a/.. to t /", "s /.. to t /", "s / to t /..", "s /1/.. to t /1",
    "s /1 to t /1/..", "s / to T /", "s / to 1 /", "s / to abcdefghi /", "s / to t /0", "s / to t a", "s / to t //",
    "s / to t /a/", "s / to t /../..", "s /.. to t /../..", "s / to t /\n", "s / stays\ns / stays", "s:/a", "-", "to",
    "stays", "to to to", "s,/ stays", "s / to t /a b",
)

# Of the form, but refused by the constructor, with the field.
NO_RULES = (
    ("s /1/2/1 stays", "pattern"), ("s /a/b/c/d/e/f/g/.. stays", "pattern"), ("s /1/2/1/.. to t /2/1/2/1/1/..", "pattern"),
    ("s /a to t /1", "goal"), ("s /.. to t /1/..", "goal"), ("s /1/1 to t /2", "goal"), ("s /2/.. to t /1/..", "goal"),
    ("s /1/2/.. to t /1/2/1/2/1/..", "goal"), ("s / to t /a/b/c/d/e", "goal"),
)

# Rules over the words a and b, exact or not, whose fitting is looked at for all short paths.
FITTED = tuple(
    Rule("s", pattern, goal, is_exact=is_exact)
    for pattern in ((), (1,), (2,), ("a",), (1, 1), (1, 2), (2, 1), ("a", 1), (2, "b"), ("a", "b"), ("b", "b"))
    for goal in (None, ("t", ("b", "a")), ("s", pattern), ("t", pattern + pattern), ("s", pattern[:1]))
    for is_exact in (False, True)
)


def made(told):
    """Return the rule of a row of RULES."""
    return Rule(told[0], told[1], told[2], is_exact=told[3])


class MakingTest(unittest.TestCase):

    def assert_invalid(self, field, *told, **named):
        with self.assertRaises(InvalidRule) as caught:
            Rule(*told, **named)
        self.assertEqual(caught.exception.field, field)

    def test_properties(self):
        for told in RULES:
            with self.subTest(text=told[4]):
                rule = made(told)
                seen = (rule.state, rule.pattern, rule.goal, rule.is_exact, rule.words)
                self.assertEqual(seen, told[:4] + (told[5],))
                self.assertIs(type(rule.pattern), tuple)
                self.assertIs(type(rule.is_exact), bool)
                self.assertIs(type(rule.words), tuple)

    def test_lists_and_tuples_and_names(self):
        one = Rule("s", ["a", 1], ("t", [1, "b"]))
        self.assertEqual((one.pattern, one.goal, one.is_exact), (("a", 1), ("t", (1, "b")), False))
        self.assertEqual(one, Rule("s", ("a", 1), ("t", (1, "b"))))
        self.assertEqual(one, Rule(goal=("t", (1, "b")), is_exact=False, pattern=["a", 1], state="s"))
        self.assertEqual(Rule("s", []).goal, None)
        self.assertEqual(Rule(state="s", pattern=()), Rule("s", (), None, is_exact=False))

    def test_signature(self):
        told = inspect.signature(Rule)
        self.assertEqual(str(told), "(state, pattern, goal=None, *, is_exact=False)")
        with self.assertRaises(TypeError):
            Rule("s", (), None, True)

    def test_lists_that_are_changed_afterwards(self):
        pattern, beginning = [1], [1, "b"]
        rule = Rule("s", pattern, ("t", beginning))
        pattern.append("a")
        beginning[0] = "c"
        self.assertEqual((rule.pattern, rule.goal), ((1,), ("t", (1, "b"))))
        self.assertEqual(rule.words, ("b",))

    def test_rules_never_change(self):
        rule = Rule("s", (1,), ("t", (1,)))
        for name in ("state", "pattern", "goal", "is_exact", "words"):
            with self.subTest(name=name), self.assertRaises(AttributeError):
                setattr(rule, name, "a")

    def test_refused_states(self):
        for value in NO_WORDS:
            with self.subTest(value=repr(value)):
                self.assert_invalid("state", value, (1,), ("t", ()))
                self.assert_invalid("state", value, "wrong", "wrong", is_exact=1)

    def test_refused_patterns(self):
        for value in NO_PATTERNS:
            with self.subTest(value=repr(value)):
                self.assert_invalid("pattern", "s", value)
                self.assert_invalid("pattern", "s", value, ("T", ()), is_exact=None)

    def test_refused_goals(self):
        for value in NO_GOALS:
            with self.subTest(value=repr(value)):
                self.assert_invalid("goal", "s", ("a", 1), value)
                self.assert_invalid("goal", "s", ("a", 1), value, is_exact=0)

    def test_bounds_of_goals(self):
        self.assertEqual(Rule("s", ("a", 2), ("t", (2, 2, 2, 2))).goal[1], (2, 2, 2, 2))
        self.assert_invalid("goal", "s", ("a", 2), ("t", (1,)))
        self.assert_invalid("goal", "s", (), ("t", (1,)))
        self.assert_invalid("goal", "s", (1,), ("t", (1, "a", 2)))

    def test_refused_is_exact(self):
        for value in NO_BOOLS:
            with self.subTest(value=repr(value)):
                self.assert_invalid("is_exact", "s", (1,), ("t", ()), is_exact=value)

    def test_equality(self):
        for (at, one), (to, other) in itertools.product(enumerate(RULES), repeat=2):
            self.assertEqual(made(one) == made(other), at == to)
            self.assertEqual(made(one) != made(other), at != to)
        rule = Rule("s", (1,))
        for value in NO_WORDS + (Book(rule), ("s", (1,), None, False), "s /1/.. stays", [rule]):
            self.assertIs(rule == value, False)
            self.assertIs(value != rule, True)

    def test_methods_stand_in_the_class(self):
        for name in ("__init__", "__eq__", "__call__", "fits", "text", "read", "state", "pattern", "goal", "is_exact",
                     "words"):
            self.assertIn(name, vars(Rule))
        self.assertEqual(Rule.__module__, "sentonward.rules")


class FittingTest(unittest.TestCase):

    def test_all_short_addresses(self):
        for rule in FITTED:
            told = (rule.state, rule.pattern, rule.goal, rule.is_exact)
            for state, path in itertools.product(("s", "t"), naive.paths(("a", "b", "x", "y"), 3)):
                one = Address(state, path)
                fits = naive.fits(told, (state, path))
                self.assertIs(rule.fits(one), fits)
                result = rule(one)
                if not fits:
                    self.assertIsNone(result)
                elif rule.goal is None:
                    self.assertIs(result, one)
                else:
                    sent = naive.following([told], (state, path))
                    self.assertEqual((result.state, result.path), sent)

    def test_by_hand(self):
        rule = Rule("web", (1, "old"), ("www", ("new", 1)))
        self.assertEqual(rule(Address("web", ["a", "old", "b"])), Address("www", ["new", "a", "b"]))
        self.assertEqual(rule(address=Address("web", ["a", "old"])), Address("www", ["new", "a"]))
        self.assertIsNone(rule(Address("web", ["old", "a"])))
        self.assertIsNone(rule(Address("www", ["a", "old"])))
        self.assertIs(Rule("s", (1, 1)).fits(address=Address("s", ["a", "b"])), False)
        self.assertIs(Rule("s", (1, 2)).fits(Address("s", ["a", "a"])), True)
        self.assertIs(Rule("s", (1, 2)).fits(Address("s", ["a"])), False)
        self.assertIs(Rule("s", (), is_exact=True).fits(Address("s", ["a"])), False)
        long = ("x",) * 5000
        self.assertEqual(Rule("s", (1, 1), ("t", (1,)))(Address("s", long)), Address("t", long[1:]))

    def test_a_rule_that_sends_an_address_to_itself(self):
        one = Address("s", ["a", "b"])
        self.assertEqual(Rule("s", (1, 2), ("s", (1, 2)))(one), one)


class TextTest(unittest.TestCase):

    def assert_no_text(self, value):
        with self.assertRaises(InvalidText) as caught:
            Rule.read(value)
        self.assertEqual(caught.exception.index, 0)

    def test_texts(self):
        for told in RULES:
            with self.subTest(text=told[4]):
                self.assertEqual(made(told).text(), told[4])
                self.assertEqual(Rule.read(told[4]), made(told))
                self.assertEqual(Rule.read(text=told[4]).words, told[5])

    def test_drawn_texts(self):
        rng = random.Random(7)
        for _ in range(300):
            rule = drawn_rule(rng, ("s", "to", "stays"), ("a", "to", "stays"))
            self.assertEqual(Rule.read(rule.text()), rule)
            self.assertEqual(Rule.read(rule.text()).text(), rule.text())

    def test_values_that_are_no_strings(self):
        for value in NO_STRINGS + (Rule("s", ()), Book(), Chain(Book(), Book()), ["s / stays"], b"s / stays"):
            with self.subTest(value=repr(value)):
                self.assert_no_text(value)

    def test_texts_that_have_not_the_form(self):
        for text in NOT_OF_THE_FORM + WORDS + ODD_STRINGS:
            with self.subTest(text=text):
                self.assert_no_text(text)

    def test_texts_with_one_change(self):
        rng = random.Random(8)
        for told in RULES:
            text = told[4]
            for sign in " /.\n:-A0_":
                for at in range(len(text) + 1):
                    self.assert_change(text[:at] + sign + text[at:])
                for at in range(len(text)):
                    self.assert_change(text[:at] + sign + text[at + 1:])
            parts = text.split(" ")
            for at in range(len(parts)):
                self.assert_change(" ".join(parts[:at] + parts[at + 1:]))
                self.assert_change(" ".join(parts[:at] + [rng.choice(parts)] + parts[at:]))

    def assert_change(self, text):
        """A text is refused, or it is the very text of the rule that is read."""
        try:
            self.assertEqual(Rule.read(text).text(), text)
        except InvalidText as error:
            self.assertEqual(error.index, 0)
        except InvalidRule as error:
            self.assertIn(error.field, ("pattern", "goal"))

    def test_texts_of_no_right_rule(self):
        for text, field in NO_RULES:
            with self.subTest(text=text), self.assertRaises(InvalidRule) as caught:
                Rule.read(text)
            self.assertEqual(caught.exception.field, field)


if __name__ == "__main__":
    unittest.main()

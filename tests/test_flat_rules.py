"""Flat rules: [11], [12], [40] and what the interface of flat.py says of FlatRule and flat_end."""

import inspect
import itertools
import random
import unittest

from sentonward.addresses import Address
from sentonward.books import Book, Chain
from sentonward.errors import InvalidRule, InvalidText, NotARule
from sentonward.flat import FlatRule, flat_end
from sentonward.rules import Rule
from tests import naive
from tests.drawn import DROP, address
from tests.test_rules import FITTED, NO_BOOLS, NO_GOALS, NO_PATTERNS, NOT_OF_THE_FORM, RULES
from tests.values import NO_STRINGS, NO_WORDS, ODD_STRINGS, WORDS

GREAT = 10 ** 99
DIGITS = "9" * 100

# (state, pattern, goal, is_exact), the text, and the named words: what a rule does not take.
FLAT = RULES + (
    ("s", (3,), None, False, "s /3/.. stays", ()),
    ("s", (1, 2, 3), ("t", (3, 2, 1)), True, "s /1/2/3 to t /3/2/1", ()),
    ("s", ("a", 7, "b", 7, 12), ("t", (12, 7, "c")), False, "s /a/7/b/7/12/.. to t /12/7/c/..", ("a", "b", "c")),
    ("s", (1,), ("t", (1,) * 9), False, "s /1/.. to t /1/1/1/1/1/1/1/1/1/..", ()),
    ("s", ("a",) * 12, ("t", ()), True, "s " + "/a" * 12 + " to t /", ("a",)),
    ("s", tuple(range(1, 40)), ("s", tuple(range(39, 0, -1))), False,
     "s /" + "/".join(map(str, range(1, 40))) + "/.. to s /" + "/".join(map(str, range(39, 0, -1))) + "/..", ()),
    ("s", (GREAT, 10), ("t", (10, GREAT)), False, f"s /{GREAT}/10/.. to t /10/{GREAT}/..", ()),
    ("s", (int(DIGITS),), None, True, f"s /{DIGITS} stays", ()),
    ("s", (2, 2, 2), ("t", tuple("fedcbag")), False, "s /2/2/2/.. to t /f/e/d/c/b/a/g/..", tuple("abcdefg")),
)

# What a rule does not take, but a flat rule does.
MORE_PATTERNS = (("a", "b", "c"), (1, 1, 1), [1, 2, 1], (3,), (1, 3), (7,), [7])
NO_FLAT_PATTERNS = tuple(value for value in NO_PATTERNS if value not in MORE_PATTERNS) + (
    [0], (-3,), (1, 0), (1, 2, -1), ["a", True], (1, 2, 3, 4, 5, None), (1.0,), ("a",) * 9 + ("A",), ((1, 2),), (GREAT, -GREAT),
)
NO_FLAT_GOALS = tuple(value for value in NO_GOALS if value not in (("t", (1, 1, 1, 1, 1)), ("t", ["a"] * 5))) + (
    ("t", (1, 3)), ("t", (GREAT,)), ("t", (-1,)), ("t", (1, True)), ("t", (1,) * 30 + (2,)), ("t", (1.0,)),
)

FLAT_TEXTS_REFUSED = tuple(text for text in NOT_OF_THE_FORM if text not in (
    "s /3 stays", "s /12 stays")) + (
    "s /1/03 stays", "s /00 stays", "s /1" + "0" * 100 + " stays", "s /" + "1" * 101 + "/.. to t /..", "s /+1 stays",
    "s /1_0 stays", "s /1.0 stays", "s /\u0661\u0662 stays", "s /1\u0662 stays", "s /\u00b2 stays", "s /-3/.. stays",
    "s /1/0/2 stays", "s /12/..to t /..", "s /10 to t /010", "s /0x1 stays", "s /1e1 stays", "s / 1 stays",
)

RULES_3 = [
    FlatRule("s", ("a", 1), ("t", (1,))), FlatRule("s", (1, 2, 1), ("u", (2, "q"))), FlatRule("s", ("a",)),
    FlatRule("s", (1,), ("v", ()), is_exact=True), FlatRule("s", (1, 1), ("s", (1, 1))),
]


def made(told):
    """Return the flat rule of a row of FLAT."""
    return FlatRule(told[0], told[1], told[2], is_exact=told[3])


class MakingTest(unittest.TestCase):

    def assert_invalid(self, field, *told, **named):
        with self.assertRaises(InvalidRule) as caught:
            FlatRule(*told, **named)
        self.assertEqual(caught.exception.field, field)

    def test_properties(self):
        for told in FLAT:
            with self.subTest(text=told[4]):
                rule = made(told)
                seen = (rule.state, rule.pattern, rule.goal, rule.is_exact, rule.words)
                self.assertEqual(seen, told[:4] + (told[5],))
                self.assertEqual([type(each) for each in seen], [str, tuple, type(told[2]), bool, tuple])

    def test_lists_and_names(self):
        pattern, beginning = ["a", 5], [5, "b", 5]
        one = FlatRule("s", pattern, ("t", beginning))
        other = FlatRule(goal=("t", (5, "b", 5)), is_exact=False, pattern=("a", 5), state="s")
        pattern.append("a")
        beginning[0] = "c"
        self.assertEqual((one.pattern, one.goal, one.words), (("a", 5), ("t", (5, "b", 5)), ("a", "b")))
        self.assertEqual(one, other)
        self.assertEqual(str(inspect.signature(FlatRule)), "(state, pattern, goal=None, *, is_exact=False)")
        with self.assertRaises(TypeError):
            FlatRule("s", (), None, True)

    def test_flat_rules_never_change(self):
        rule = FlatRule("s", (3,), ("t", (3,)))
        for name in ("state", "pattern", "goal", "is_exact", "words"):
            with self.subTest(name=name), self.assertRaises(AttributeError):
                setattr(rule, name, "a")

    def test_refused_parts(self):
        for value in NO_WORDS:
            with self.subTest(state=repr(value)):
                self.assert_invalid("state", value, (1,), ("t", ()))
                self.assert_invalid("state", value, "wrong", "wrong", is_exact=1)
        for value in NO_FLAT_PATTERNS:
            with self.subTest(pattern=repr(value)):
                self.assert_invalid("pattern", "s", value)
                self.assert_invalid("pattern", "s", value, ("T", ()), is_exact=None)
        for value in NO_FLAT_GOALS:
            with self.subTest(goal=repr(value)):
                self.assert_invalid("goal", "s", ("a", 1), value)
                self.assert_invalid("goal", "s", ("a", 1), value, is_exact=0)
        for value in NO_BOOLS:
            with self.subTest(is_exact=repr(value)):
                self.assert_invalid("is_exact", "s", (1,), ("t", ()), is_exact=value)

    def test_holes(self):
        for pattern in MORE_PATTERNS:
            self.assertEqual(FlatRule("s", pattern).pattern, tuple(pattern))
        self.assertEqual(FlatRule("s", (8, 3), ("t", (3, 8, 3, 8, 3))).goal, ("t", (3, 8, 3, 8, 3)))
        for hole in (1, 2, 4, 7, 9, GREAT):
            self.assert_invalid("goal", "s", (8, 3), ("t", (3, hole)))
        for hole in (0, -1, True, False, -GREAT):
            self.assert_invalid("pattern", "s", (hole,))
            self.assert_invalid("goal", "s", (1,), ("t", (hole,)))

    def test_equality(self):
        for (at, one), (to, other) in itertools.product(enumerate(FLAT), repeat=2):
            self.assertEqual(made(one) == made(other), at == to)
            self.assertEqual(made(one) != made(other), at != to)
        rule = FlatRule("s", (1,))
        for value in NO_WORDS + (Book(), ("s", (1,), None, False), "s /1/.. stays", [rule], Rule("s", (1,))):
            self.assertIs(rule == value, False)
            self.assertIs(value != rule, True)

    def test_a_rule_is_no_flat_rule(self):
        for told in RULES:
            rule, one = Rule(*told[:3], is_exact=told[3]), made(told)
            self.assertIs(rule == one, False)
            self.assertIs(one == rule, False)
            self.assertFalse(isinstance(rule, FlatRule) or isinstance(one, Rule))
            self.assertEqual(rule.text(), one.text())
            self.assertIs(one in Book(rule), False)
            for make in (lambda: Book(rule, one), lambda: Book.of([rule, one]), lambda: Book(rule) | one,
                         lambda: Book(rule).insert(1, one), lambda: Book(rule).set_rules([rule, one])):
                with self.assertRaises(NotARule) as caught:
                    make()
                self.assertEqual(caught.exception.index, 1)

    def test_methods_stand_in_the_class(self):
        for name in ("__init__", "__eq__", "__call__", "fits", "text", "read", "state", "pattern", "goal", "is_exact",
                     "words"):
            self.assertIn(name, vars(FlatRule))
        self.assertEqual((FlatRule.__module__, flat_end.__module__), ("sentonward.flat", "sentonward.flat"))
        self.assertEqual(str(inspect.signature(flat_end)), "(rules, address)")


class FittingTest(unittest.TestCase):

    def test_all_short_addresses(self):
        flat_rules = [FlatRule(rule.state, rule.pattern, rule.goal, is_exact=rule.is_exact) for rule in FITTED]
        flat_rules += [
            FlatRule("s", pattern, goal, is_exact=is_exact)
            for pattern in ((3,), (9, 4), (1, 2, 3), (1, 2, 1), (5, 5, 5), ("a", 3, "b"), (2, 1, "a", 2), (1, 2, 3, 1))
            for goal in (None, ("t", ()), ("t", pattern + pattern + ("q",)), ("s", pattern[::-1])) for is_exact in (False, True)
        ]
        for rule in flat_rules:
            told = (rule.state, rule.pattern, rule.goal, rule.is_exact)
            for state, path in itertools.product(("s", "t"), naive.paths(("a", "b", "x"), 4)):
                one = Address(state, path)
                fits = naive.fits(told, (state, path))
                self.assertIs(rule.fits(one), fits)
                result = rule(one)
                if not fits:
                    self.assertIsNone(result)
                elif rule.goal is None:
                    self.assertIs(result, one)
                else:
                    self.assertEqual((result.state, result.path), naive.following([told], (state, path)))

    def test_by_hand(self):
        rule = FlatRule("s", (4, "a", 9, 4), ("t", (9, 9, "z")))
        self.assertEqual(rule(address("s:/x/a/y/x/r")), address("t:/y/y/z/r"))
        self.assertIsNone(rule(address=address("s:/x/a/y/y/r")))
        self.assertIs(rule.fits(address=address("s:/x/a/x/x")), True)
        long = tuple(range(1, 3000))
        path = ("x", "y", "z") * 1000
        self.assertEqual(FlatRule("s", long, ("t", long[::-1]))(Address("s", path)), Address("t", path[2998::-1] + path[2999:]))

    def test_flat_end(self):
        for text, right in (
            ("s:/a/b/c", "t:/b/c"), ("s:/a/b/a", "t:/b/a"), ("s:/x/y/x/r", "u:/y/q/r"), ("s:/a", "s:/a"), ("s:/x", "v:"),
            ("s:/x/x", "s:/x/x"), ("s:/x/y", "s:/x/y"), ("s:", "s:"), ("t:/a/b", "t:/a/b"), ("s:/x/x/x", "u:/x/q"),
        ):
            self.assertEqual(flat_end(RULES_3, address(text)), address(right))
            self.assertEqual(flat_end(tuple(RULES_3), address(text)), address(right))
            self.assertEqual(flat_end(RULES_3[::-1] + RULES_3, address(text)), flat_end(RULES_3[::-1], address(text)))
            self.assertEqual(flat_end([], address(text)), address(text))
        self.assertEqual(flat_end(address=address("s:/a/x"), rules=RULES_3), address("t:/x"))
        # The first one that fits is all that applies, even where it lets the address stay.
        self.assertEqual(flat_end([RULES_3[2], RULES_3[0]], address("s:/a/b")), address("s:/a/b"))


class TextTest(unittest.TestCase):

    def assert_no_text(self, value):
        with self.assertRaises(InvalidText) as caught:
            FlatRule.read(value)
        self.assertEqual(caught.exception.index, 0)

    def test_texts(self):
        for told in FLAT:
            with self.subTest(text=told[4]):
                self.assertEqual(made(told).text(), told[4])
                self.assertEqual(FlatRule.read(told[4]), made(told))
                self.assertIsInstance(FlatRule.read(text=told[4]), FlatRule)

    def test_drawn_texts(self):
        rng = random.Random(17)
        for _ in range(300):
            pattern = [rng.choice(("a", "to", "stays", 1, 2, 10, 33, GREAT)) for _ in range(rng.randint(0, 6))]
            goal = ("to", [rng.choice(pattern + ["b"]) for _ in range(rng.randint(0, 7))]) if rng.random() < 0.8 else None
            rule = FlatRule("stays", pattern, goal, is_exact=rng.random() < 0.5)
            self.assertEqual(FlatRule.read(rule.text()), rule)
            self.assertEqual(FlatRule.read(rule.text()).text(), rule.text())

    def test_values_that_are_no_texts(self):
        for value in NO_STRINGS + FLAT_TEXTS_REFUSED + WORDS + ODD_STRINGS + (
                Rule("s", ()), FlatRule("s", ()), Book(), Chain(DROP, DROP), ["s / stays"], b"s / stays"):
            with self.subTest(value=repr(value)):
                self.assert_no_text(value)

    def test_texts_with_one_change(self):
        for told in FLAT[20:24]:
            text = told[4]
            for sign in " /.\n:-A09":
                for at in range(len(text) + 1):
                    for other in (text[:at] + sign + text[at:], text[:at] + sign + text[at + 1:]):
                        try:
                            self.assertEqual(FlatRule.read(other).text(), other)
                        except InvalidText as error:
                            self.assertEqual(error.index, 0)
                        except InvalidRule as error:
                            self.assertEqual(error.field, "goal")

    def test_texts_of_no_right_rule(self):
        for text in ("s /.. to t /1/..", "s /1/2/3 to t /4", "s /a to t /1", f"s /{GREAT} to t /{GREAT + 1}"):
            with self.subTest(text=text), self.assertRaises(InvalidRule) as caught:
                FlatRule.read(text)
            self.assertEqual(caught.exception.field, "goal")
        # What a rule refuses because of its limits is taken.
        for text in ("s /1/2/1 stays", "s /a/b/c/d/e/f/g/.. stays", "s /1/2/1/.. to t /2/1/2/1/1/..", "s / to t /a/b/c/d/e"):
            self.assertEqual(FlatRule.read(text).text(), text)


if __name__ == "__main__":
    unittest.main()

"""Books made, read, edited and joined: [13] and the interface of books.py."""

import inspect
import itertools
import random
import unittest

from sentonward.addresses import Address
from sentonward.books import Book, Chain
from sentonward.errors import InvalidRule, InvalidText, NotARule, OutOfRange, TooMany
from sentonward.rules import Rule
from tests.drawn import DROP, book, drawn_book, drawn_rule
from tests.test_rules import NO_RULES, NOT_OF_THE_FORM
from tests.values import NO_STRINGS, NO_WORDS, ODD_STRINGS

A = Rule("a", (), ("b", ()))
B = Rule("b", ("x",), ("c", ("y",)))
C = Rule("s", (1, 2), ("s", (2, 1)))
D = Rule("s", (1,))

LETTERS = "abcdefghijklmnop"
STATES_6 = [Rule(state, ()) for state in "abcdef"]
GOALS_6 = [Rule(one, (), (other, ())) for one, other in ("ab", "cd", "ef")]
WORDS_6 = [Rule("s", ("a", "b"), ("t", ("c", "d"))), Rule("s", (), ("s", ("e", "f")))]

# Values that are no rules; lists of rules and books are none either.
NO_RULE = NO_WORDS + (Book(), DROP, Chain(Book(), Book()), (A,), [A, B], "s / stays", ("s", ()))

NO_INDEXES = tuple(value for value in NO_WORDS if value not in (0, 1, 7) or isinstance(value, bool)) + (
    -2, 10 ** 20, (0,), [1], "0", b"0", {0: 1}, A, DROP,
)


class MakingTest(unittest.TestCase):

    def assert_raised(self, error, value, make):
        with self.assertRaises(error) as caught:
            make()
        self.assertEqual(vars(caught.exception), {"index" if error is NotARule else "limit": value})

    def test_made(self):
        for rules in ((), (A,), (A, B), (A, A, A), (A, B, C, D), [D] * 12):
            for made in (Book(*rules), Book.of(list(rules)), Book.of(rules=tuple(rules))):
                self.assertEqual(made.rules, tuple(rules))
                self.assertIs(type(made.rules), tuple)
                self.assertEqual(len(made), len(rules))

    def test_states_and_words(self):
        self.assertEqual((Book().states, Book().words), ((), ()))
        self.assertEqual((Book(A, B, C, D).states, Book(A, B, C, D).words), (("a", "b", "c", "s"), ("x", "y")))
        self.assertEqual((DROP.states, DROP.words), (("s", "t"), ()))
        self.assertEqual(book("z /b/a/.. to a /ab/..", "m / stays").states, ("a", "m", "z"))
        self.assertEqual(book("z /b/a/.. to a /ab/..", "m / stays").words, ("a", "ab", "b"))

    def test_limits_that_are_just_met(self):
        self.assertEqual(len(Book(*[D] * 12)), 12)
        self.assertEqual(len(Book(*STATES_6).states), 6)
        self.assertEqual(len(Book(*GOALS_6).states), 6)
        self.assertEqual(len(Book(*WORDS_6).words), 6)

    def test_not_a_rule(self):
        for value in NO_RULE:
            with self.subTest(value=repr(value)):
                self.assert_raised(NotARule, 0, lambda: Book(value))
                self.assert_raised(NotARule, 2, lambda: Book(A, B, value, C, value))
                self.assert_raised(NotARule, 1, lambda: Book.of([A, value]))
                self.assert_raised(NotARule, 14, lambda: Book(*[A] * 14, value))

    def test_too_many(self):
        self.assert_raised(TooMany, 12, lambda: Book(*[D] * 13))
        self.assert_raised(TooMany, 12, lambda: Book(*[Rule(state, ()) for state in LETTERS]))
        self.assert_raised(TooMany, 6, lambda: Book(*STATES_6, Rule("g", ())))
        self.assert_raised(TooMany, 6, lambda: Book(*STATES_6, Rule("a", (), ("g", ()))))
        self.assert_raised(TooMany, 6, lambda: Book(*GOALS_6, Rule("g", ())))
        self.assert_raised(TooMany, 6, lambda: Book(*WORDS_6, Rule("s", ("g",))))
        self.assert_raised(TooMany, 6, lambda: Book(*WORDS_6, Rule("s", (), ("s", ("g",)))))
        self.assert_raised(NotARule, 13, lambda: Book(*[D] * 13, None))
        self.assert_raised(NotARule, 7, lambda: Book(*STATES_6, Rule("g", ()), "rule"))

    def test_lists_that_are_changed_afterwards(self):
        rules = [A, B]
        one, other = Book.of(rules), Book()
        other.rules = rules
        rules.append(C)
        rules[0] = D
        self.assertEqual((one.rules, other.rules), ((A, B), (A, B)))

    def test_signatures(self):
        for method, told in (
            (Book, "(*rules)"), (Book.of, "(rules)"), (Book.set_rules, "(self, rules)"), (Book.take, "(self, index)"),
            (Book.insert, "(self, index, rule)"), (Book.without, "(self, *indexes)"), (Book.copied, "(self)"),
            (Book.first, "(self, address)"), (Book.after, "(self, address)"), (Book.walk, "(self, address)"),
            (Book.text, "(self)"), (Book.read, "(text)"),
        ):
            self.assertEqual(str(inspect.signature(method)), told)
        for name in ("of", "rules", "set_rules", "states", "words", "__len__", "__contains__", "__getitem__",
                     "__setitem__", "take", "insert", "without", "copied", "__eq__", "__or__", "__ror__", "__ior__",
                     "first", "after", "walk", "text", "read", "__add__", "__init__"):
            self.assertIn(name, vars(Book))
        self.assertEqual(Book.__module__, "sentonward.books")

    def test_equality(self):
        books = [Book(), Book(A), Book(B), Book(A, B), Book(B, A), Book(A, A), DROP]
        for (at, one), (to, other) in itertools.product(enumerate(books), enumerate(list(books))):
            self.assertEqual((one == other, one != other), (at == to, at != to))
        self.assertEqual(Book(Rule("s", [1])), Book(Rule("s", (1,))))
        for value in NO_WORDS + ((), [A], A, Chain(Book(), Book()), ""):
            self.assertIs(Book(A) == value, False)
            self.assertIs(value != Book(), True)

    def test_books_are_not_iterated_over(self):
        for one in (Book(), DROP):
            with self.assertRaises(TypeError):
                iter(one)
            with self.assertRaises(TypeError):
                list(one)


class ItemsTest(unittest.TestCase):

    def test_items(self):
        one = Book(A, B, C)
        self.assertEqual([one[at] for at in range(3)], [A, B, C])
        for value in NO_INDEXES + (3, 4, -1, -3, True, False):
            with self.subTest(value=repr(value)):
                with self.assertRaises(OutOfRange) as caught:
                    one[value]
                self.assertIs(caught.exception.value, value)
        with self.assertRaises(OutOfRange):
            Book()[0]

    def test_in(self):
        one = Book(A, C)
        self.assertIs(A in one, True)
        self.assertIs(Rule("s", [1, 2], ("s", [2, 1])) in one, True)
        self.assertIs(B in one, False)
        self.assertIs(A in Book(), False)
        for value in NO_WORDS + (DROP, Chain(DROP, DROP), Book(A), [A], (A,), "a /.. to b /.."):
            self.assertIs(value in one, False)

    def test_set(self):
        one = Book(A, B, C)
        one[1] = D
        one[0] = A
        self.assertEqual(one.rules, (A, D, C))

    def test_take(self):
        one = Book(A, B, C)
        self.assertIsNone(one.take(1))
        self.assertEqual(one.rules, (A, C))
        self.assertIsNone(one.take(index=1))
        one.take(0)
        self.assertEqual(one.rules, ())

    def test_insert(self):
        one = Book()
        self.assertIsNone(one.insert(0, B))
        one.insert(0, A)
        one.insert(2, D)
        one.insert(rule=C, index=2)
        self.assertEqual(one.rules, (A, B, C, D))

    def test_set_rules(self):
        one = Book(A)
        self.assertIsNone(one.set_rules([B, C]))
        self.assertEqual(one.rules, (B, C))
        one.rules = (D,)
        self.assertEqual(one.rules, (D,))
        one.set_rules(rules=[])
        self.assertEqual(one.rules, ())

    def test_without(self):
        one = Book(A, B, C, D)
        self.assertEqual(one.without(), one)
        self.assertEqual(one.without(0), Book(B, C, D))
        self.assertEqual(one.without(3, 1), Book(A, C))
        self.assertEqual(one.without(2, 0, 3, 1), Book())
        self.assertEqual(one.rules, (A, B, C, D))
        self.assertIsNot(one.without(), one)

    def test_without_wrong_indexes(self):
        one = Book(A, B, C, D)
        for value in NO_INDEXES + (4, -1, True, False, 2):
            if isinstance(value, int) and value == 7:
                continue
            with self.subTest(value=repr(value)):
                with self.assertRaises(OutOfRange) as caught:
                    one.without(2, 0, value, 99)
                self.assertIs(caught.exception.value, value)
        self.assertEqual(one.rules, (A, B, C, D))

    def test_copied(self):
        one = Book(A, B)
        other = one.copied()
        self.assertEqual(one, other)
        self.assertIsNot(one, other)
        other.take(0)
        one.insert(0, C)
        self.assertEqual((one.rules, other.rules), ((C, A, B), (B,)))


class RefusedChangesTest(unittest.TestCase):

    def changes(self, one, value):
        """Return (error, value, action) for changes of a book that are refused, with the error of each."""
        many = len(one)
        wrong = [many + 1, -1, True, None, "0", (0,), 10 ** 30]
        told = []
        for index in wrong + [many]:
            told += [
                (OutOfRange, index, lambda index=index: one.__setitem__(index, A)),
                (OutOfRange, index, lambda index=index: one.__setitem__(index, value)),
                (OutOfRange, index, lambda index=index: one.take(index)),
            ]
        for index in wrong:
            told += [
                (OutOfRange, index, lambda index=index: one.insert(index, A)),
                (OutOfRange, index, lambda index=index: one.insert(index, value)),
            ]
        for index in range(many):
            told += [(NotARule, index, lambda index=index: one.__setitem__(index, value))]
        for index in range(many + 1):
            told += [(NotARule, index, lambda index=index: one.insert(index, value))]
        told += [
            (NotARule, 1, lambda: one.set_rules([A, value])),
            (NotARule, 13, lambda: one.set_rules([A] * 13 + [value])),
            (NotARule, 0, lambda: setattr(one, "rules", (value,))),
            (TooMany, 12, lambda: one.set_rules([D] * 13)),
            (TooMany, 6, lambda: one.set_rules(STATES_6 + [Rule("g", ())])),
            (TooMany, 6, lambda: setattr(one, "rules", WORDS_6 + [Rule("a", ("g",))])),
        ]
        return told

    def test_refused(self):
        for rules in ((), (A,), (A, B, C), [D] * 12):
            one = Book(*rules)
            for value in (None, 1, "s / stays", (A,), [A], Book(A), Address("a")):
                for error, told, change in self.changes(one, value):
                    with self.assertRaises(error) as caught:
                        change()
                    self.assertEqual(list(vars(caught.exception).values()), [told])
                    self.assertEqual(one.rules, tuple(rules))

    def test_no_list_of_rules(self):
        one = Book(A, B)
        for value in NO_STRINGS + ODD_STRINGS + (A, DROP, Chain(DROP, DROP), "s / stays"):
            if isinstance(value, (list, tuple)):
                continue
            for change in (lambda: one.set_rules(value), lambda: setattr(one, "rules", value)):
                with self.subTest(value=repr(value)), self.assertRaises(NotARule) as caught:
                    change()
                self.assertEqual((caught.exception.index, one.rules), (-1, (A, B)))

    def test_limits(self):
        full = Book(*[D] * 12)
        full[11] = A
        for change in (lambda: full.insert(0, D), lambda: full.insert(12, D)):
            with self.assertRaises(TooMany) as caught:
                change()
            self.assertEqual((caught.exception.limit, len(full), full[11]), (12, 12, A))
        for rules, wrong in ((STATES_6, Rule("g", ())), (WORDS_6, Rule("s", ("g",)))):
            one = Book(*rules)
            with self.assertRaises(TooMany) as caught:
                one.insert(0, wrong)
            self.assertEqual((caught.exception.limit, one.rules), (6, tuple(rules)))
        states = Book(*STATES_6)
        states[5] = Rule("g", ())
        states[0] = Rule("g", (), ("b", ()))
        states.insert(6, Rule("h", ()))
        self.assertEqual(states.states, ("b", "c", "d", "e", "g", "h"))
        with self.assertRaises(TooMany):
            states[5] = Rule("i", (), ("j", ()))

    def test_errors_keep_the_very_value(self):
        one = Book(A)
        for value in ([], {"a": [1]}, (1, [2])):
            for change in (lambda: one.take(value), lambda: one.insert(value, A), lambda: one.without(value)):
                with self.assertRaises(OutOfRange) as caught:
                    change()
                self.assertIs(caught.exception.value, value)

    def test_drawn_changes(self):
        rng = random.Random(31)
        one, rules = Book(), []
        for _ in range(1500):
            change, at, rule = rng.randrange(4), rng.randint(-1, 13), drawn_rule(rng, "stuvwxyz", "abcdefgh")
            before = one.copied()
            told, expected = None, list(rules)
            if change == 0 and 0 <= at <= len(rules):
                expected.insert(at, rule)
            elif change in (1, 2) and 0 <= at < len(rules):
                expected[at:at + 1] = [rule] if change == 1 else []
            elif change == 3:
                expected = rules[:at] + [rule]
            else:
                told = OutOfRange
            told = told or self.refusal(expected)
            try:
                (one.insert, one.__setitem__, lambda at, _: one.take(at),
                 lambda at, rule: one.set_rules(rules[:at] + [rule]))[change](at, rule)
                rules = expected
                self.assertIsNone(told)
            except (OutOfRange, TooMany) as error:
                self.assertIs(type(error), told)
                self.assertEqual(one, before)
            self.assertEqual(one.rules, tuple(rules))

    def refusal(self, rules):
        try:
            Book.of(rules)
        except TooMany:
            return TooMany
        return None


class JoiningTest(unittest.TestCase):

    def test_joined(self):
        one, other = Book(A, B), Book(C)
        self.assertEqual((one | other).rules, (A, B, C))
        self.assertEqual((other | one).rules, (C, A, B))
        self.assertEqual((one | D).rules, (A, B, D))
        self.assertEqual((D | one).rules, (D, A, B))
        self.assertEqual((A | Book()).rules, (A,))
        self.assertEqual((Book() | A).rules, (A,))
        self.assertEqual((one | one).rules, (A, B, A, B))
        self.assertEqual((D | one | C | other | A).rules, (D, A, B, C, C, A))
        self.assertEqual((one.rules, other.rules), ((A, B), (C,)))
        self.assertIsInstance(D | one, Book)

    def test_joined_in_place(self):
        one = same = Book(A)
        before = one | Book()
        one |= B
        one |= Book(C, D)
        self.assertIs(one, same)
        self.assertEqual((one.rules, before.rules), ((A, B, C, D), (A,)))
        one |= one
        self.assertEqual(one.rules, (A, B, C, D, A, B, C, D))
        one |= Book()
        self.assertIs(one, same)
        self.assertEqual(len(one), 8)

    def test_two_rules_are_not_joined(self):
        with self.assertRaises(TypeError):
            A | B

    def test_beyond_a_limit(self):
        full, states, words = Book(*[D] * 12), Book(*STATES_6), Book(*WORDS_6)
        for make, limit in (
            (lambda: full | D, 12), (lambda: D | full, 12), (lambda: full | Book(D), 12), (lambda: full | full, 12),
            (lambda: full.__ior__(D), 12), (lambda: full.__ior__(full), 12),
            (lambda: states | Rule("g", ()), 6), (lambda: Rule("g", ()) | states, 6),
            (lambda: states | words, 6), (lambda: states.__ior__(words), 6),
            (lambda: words | Rule("s", ("g",)), 6), (lambda: words.__ior__(Book(Rule("s", ("g",)))), 6),
        ):
            with self.assertRaises(TooMany) as caught:
                make()
            self.assertEqual(caught.exception.limit, limit)
        self.assertEqual((full.rules, states.rules, words.rules), ((D,) * 12, tuple(STATES_6), tuple(WORDS_6)))

    def test_what_is_no_rule_has_its_index_in_the_new_list(self):
        one = Book(A, B)
        with self.assertRaises(NotARule) as caught:
            one |= None
        self.assertEqual((caught.exception.index, one.rules), (2, (A, B)))


class TextsTest(unittest.TestCase):

    def assert_no_text(self, index, text):
        with self.assertRaises(InvalidText) as caught:
            Book.read(text)
        self.assertEqual(caught.exception.index, index)

    def test_texts(self):
        for one in [Book(), DROP, Book(A), Book(A, A), Book(*STATES_6)] + [drawn_book(seed) for seed in range(100)]:
            self.assertEqual(Book.read(one.text()), one)
            self.assertEqual(Book.read(text=one.text()).text(), one.text())
        self.assertEqual(Book().text(), "")
        self.assertEqual(DROP.text(), "s /1/1/.. to t /1/..\ns /1/2/.. to s /1/..")
        self.assertEqual(Book.read("").rules, ())

    def test_values_that_are_no_strings(self):
        for value in NO_STRINGS + (A, DROP, ["s / stays"], b"s / stays"):
            with self.subTest(value=repr(value)):
                self.assert_no_text(0, value)

    def test_the_first_line_without_the_form(self):
        for line in NOT_OF_THE_FORM:
            if "\n" in line:
                continue
            with self.subTest(line=line):
                if line:
                    self.assert_no_text(0, line)
                self.assert_no_text(1, "s / stays\n" + line)
                self.assert_no_text(0, line + "\ns / stays")
                self.assert_no_text(2, "s / stays\nt / stays\n" + line + "\n" + line + "\ns / stays")
                self.assert_no_text(1, "s /1/1/1 stays\n" + line)
                self.assert_no_text(0, line + "\ns /1/1/1 stays")
                self.assert_no_text(13, "\n".join(["s / stays"] * 13 + [line]))
        self.assert_no_text(0, "\n")
        self.assert_no_text(1, "s / stays\n")
        self.assert_no_text(0, "\ns / stays")

    def test_lines_of_no_right_rule(self):
        for text, field in NO_RULES:
            for lines in ([text], ["s / stays", text], ["s / stays"] * 13 + [text], [text] + ["s / stays"] * 13,
                          [text, "s /1/1/1 stays", "s / to t /1"]):
                with self.subTest(lines=lines), self.assertRaises(InvalidRule) as caught:
                    Book.read("\n".join(lines))
                self.assertEqual(caught.exception.field, field)

    def test_too_many(self):
        for lines, limit in (
            (["s / stays"] * 13, 12),
            ([f"{state} / stays" for state in LETTERS[:7]], 6),
            ([f"s /{word} stays" for word in LETTERS[:7]], 6),
            ([f"{state} / stays" for state in LETTERS[:13]], 12),
        ):
            with self.assertRaises(TooMany) as caught:
                Book.read("\n".join(lines))
            self.assertEqual(caught.exception.limit, limit)


if __name__ == "__main__":
    unittest.main()

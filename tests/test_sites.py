"""Sites made, edited, undone and asked: [50] and the interface of sites.py; blocks stand in test_trials.py."""

import inspect
import random
import types
import unittest

from sentonward.addresses import Address
from sentonward.books import Book
from sentonward.ends import end_of, never_settles
from sentonward.errors import Broken, GoesOn, NotABook, NotARule, NotAWish, OutOfRange, TooFar, TooMany, Unsettled
from sentonward.flat import FlatRule
from sentonward.longest import beyond
from sentonward.rules import Rule
from sentonward.sites import FreeSite, LoggedFreeSite, LoggedSite, Site
from sentonward.wishes import Wish
from tests import naive
from tests.drawn import DROP, address, book, drawn_rule
from tests.models import Model, fields_of, shown
from tests.test_books import NO_INDEXES
from tests.test_ends import GROWING, TURNING
from tests.values import NO_WORDS

A = Rule("a", (), ("b", ()), is_exact=True)
B = Rule("b", ("x",), ("c", ("y",)))
LOOP = Rule("s", (1,), ("s", (1,)))
HOLDS = Wish("q", ("a",), ("q", ("a",)))
WRONG = Wish("q", ("a",), ("q", ("b",)))

NO_BOOKS = NO_WORDS + (A, [A], (A,), (), DROP + DROP, HOLDS, "s / stays", FlatRule("s", ()))
NO_WISHES = NO_WORDS + (A, DROP, DROP + DROP, [HOLDS], (HOLDS,), ("q", ("a",), ("q", ("a",))), Address("s"))
NO_MOST = tuple(value for value in NO_WORDS if value is not None and not (type(value) is int and 0 <= value <= 100)) + (
    -1, 101, 10 ** 40, (1,), [0], "1", b"1", True, False, A, DROP, {0: 1},
)
NO_COUNTS = tuple(value for value in NO_WORDS if not (type(value) is int and 1 <= value <= 3)) + (
    0, -1, 10 ** 40, (1,), [1], "1", b"1", True, False, A, DROP, {1: 1}, None,
)


def drawn_change(rng, many):
    """Return a change that is made alike to a book and to a site, some of them with a wrong argument."""
    rule = drawn_rule(rng, "stu", "ab") if rng.random() < 0.95 else rng.choice([None, "s / stays", [A], FlatRule("s", ())])
    at = rng.randint(0, many) if rng.random() < 0.95 else rng.choice([-1, many + 1, True, None, "0", (0,), 10 ** 30])
    rules = [drawn_rule(rng, "stu", "ab") for _ in range(rng.choice((0, 1, 2, 2, 13)))]
    return rng.choice([
        lambda one: one.__setitem__(at, rule), lambda one: one.take(at), lambda one: one.insert(at, rule),
        lambda one: one.insert(rule=rule, index=at), lambda one: one.set_rules(rules), lambda one: one.set_rules(tuple(rules)),
        lambda one: setattr(one, "rules", [*one.rules, rule]), lambda one: setattr(one, "rules", one.rules),
        lambda one: setattr(one, "rules", rule), lambda one: joined(one, rule), lambda one: joined(one, Book.of(rules[:12])),
        lambda one: one.set_rules(rules=one.rules[::-1]), lambda one: joined(one, Book()),
    ])


def joined(one, other):
    """Join another book or a rule to a book or a site, in place."""
    same = one
    one |= other
    assert one is same


class MakingTest(unittest.TestCase):

    def assert_raised(self, kind, fields, make):
        with self.assertRaises(kind) as caught:
            make()
        self.assertIs(type(caught.exception), kind)
        told = {name: len(value) if isinstance(value, Address) else value for name, value in vars(caught.exception).items()}
        self.assertEqual(told, fields)
        return caught.exception

    def test_made(self):
        for one in (DROP, Book(), book("s / to t /"), book("s /.. stays")):
            for wishes, most in (((), None), ((HOLDS,), None), ((HOLDS, HOLDS), 100 if one is not DROP else None)):
                for kind in (Site, LoggedSite):
                    for site in (kind(one, *wishes, most=most), kind.of(one, list(wishes), most), kind.of(one, wishes, most=most),
                                 kind.of(most=most, wishes=wishes, book=one)):
                        self.assertIs(type(site), kind)
                        self.assertEqual((site.book, site.rules, len(site)), (one, one.rules, len(one)))
                        self.assertEqual((site.wishes, site.most), (wishes, most))
                        self.assertEqual((site.undoable, site.redoable, site.depth), (0, 0, 0))
                        self.assertEqual([each.rules for each in site.editions()], [one.rules])

    def test_the_book_is_copied(self):
        one = Book(A)
        site = Site(one)
        one.take(0)
        told = site.book
        self.assertEqual(told, Book(A))
        told |= B
        self.assertIsNot(site.book, site.book)
        self.assertEqual((site.book, len(site)), (Book(A), 1))
        wishes = [HOLDS]
        other = Site.of(Book(), wishes)
        wishes.append(WRONG)
        other.insert(0, A)
        self.assertEqual(other.wishes, (HOLDS,))

    def test_no_book(self):
        for value in NO_BOOKS:
            with self.subTest(value=repr(value)):
                self.assert_raised(NotABook, {"index": 0}, lambda: Site(value))
                self.assert_raised(NotABook, {"index": 0}, lambda: LoggedSite(value, None, most="x"))
                self.assert_raised(NotABook, {"index": 0}, lambda: Site.of(value, [None], most=-1))
                self.assert_raised(NotABook, {"index": 0}, lambda: FreeSite(value))
                self.assert_raised(NotABook, {"index": 0}, lambda: LoggedFreeSite(value))
        self.assert_raised(NotABook, {"index": 0}, lambda: Site(Site(DROP)))

    def test_no_wish(self):
        for value in NO_WISHES:
            with self.subTest(value=repr(value)):
                self.assert_raised(NotAWish, {"index": 0}, lambda: Site(TURNING, value))
                self.assert_raised(NotAWish, {"index": 2}, lambda: Site(DROP, HOLDS, WRONG, value, value, most="x"))
                self.assert_raised(NotAWish, {"index": 1}, lambda: LoggedSite.of(DROP, [WRONG, value], most=-1))

    def test_wrong_most(self):
        for value in NO_MOST:
            with self.subTest(value=repr(value)):
                for make in (lambda: Site(TURNING, WRONG, most=value), lambda: Site.of(DROP, [], value),
                             lambda: LoggedSite(Book(), most=value)):
                    error = self.assert_raised(OutOfRange, {"value": len(value) if isinstance(value, Address) else value}, make)
                    self.assertIs(error.value, value)
        for value in (None, 0, 1, 100):
            self.assertEqual(Site(Book(), most=value).most, value)
        with self.assertRaises(TypeError):
            Site.of(DROP)

    def test_guards(self):
        one = book("s / to t /", "t / to u /", "v /1/.. to w /1/..")
        self.assert_raised(TooFar, {"address": 0}, lambda: Site(one, WRONG, most=1))
        self.assert_raised(TooFar, {"address": 0}, lambda: Site(one, most=0))
        self.assert_raised(Broken, {"index": 1}, lambda: Site(one, HOLDS, WRONG, WRONG, most=2))
        self.assert_raised(Broken, {"index": 0}, lambda: LoggedSite(DROP, WRONG))
        self.assert_raised(TooFar, {"address": 12}, lambda: Site(DROP, most=10))
        error = self.assert_raised(TooFar, {"address": 102}, lambda: Site(DROP, WRONG, most=100))
        self.assertGreater(end_of(DROP, error.address)[1], 100)
        for system, many in ((TURNING, 2), (GROWING, 1), (book("s / to s /", "t /.. to t /.."), 0)):
            for make in (lambda: Site(system), lambda: Site(system, WRONG, most=0), lambda: LoggedSite.of(system, [WRONG], 0)):
                error = self.assert_raised(GoesOn, {"address": many}, make)
                self.assertIs(type(error.__cause__), Unsettled)
                self.assertIs(error.__cause__.address, error.address)
                self.assertIsNone(end_of(system, error.address))
        self.assertEqual(Site(one, HOLDS, most=2)(address("s:")), address("u:"))

    def test_what_stands_in_the_classes(self):
        for kind, told in ((Site, "(book, *wishes, most=None)"), (LoggedSite, "(book, *wishes, most=None)"), (FreeSite, "(book)"),
                           (LoggedFreeSite, "(book)"), (Site.of, "(book, wishes, most=None)"),
                           (LoggedSite.of, "(book, wishes, most=None)"), (Site.set_rules, "(self, rules)"), (Site.take, "(self, index)"),
                           (Site.insert, "(self, index, rule)"), (Site.undo, "(self, count=1)"), (Site.redo, "(self, count=1)"),
                           (Site.editions, "(self)"), (Site.trial, "(self)"), (Site.attempt, "(self, action)"),
                           (Site.tried, "(self, action)"), (Site.__call__, "(self, address)")):
            self.assertEqual(str(inspect.signature(kind)), told)
        for name in ("__init__", "of", "book", "wishes", "most", "rules", "set_rules", "__len__", "__contains__", "__getitem__",
                     "__setitem__", "take", "insert", "__ior__", "__call__", "undo", "redo", "undoable", "redoable", "editions",
                     "trial", "attempt", "tried", "depth"):
            self.assertIn(name, vars(Site))
        for kind, names in ((LoggedSite, ("__init__", "of", "log")), (FreeSite, ("__init__", "__call__")),
                            (LoggedFreeSite, ("__init__",))):
            self.assertEqual(kind.__module__, "sentonward.sites")
            for name in names:
                self.assertIn(name, vars(kind))
        self.assertTrue(issubclass(LoggedSite, Site) and issubclass(FreeSite, Site))
        self.assertTrue(issubclass(LoggedFreeSite, FreeSite) and issubclass(LoggedFreeSite, LoggedSite))
        self.assertFalse(hasattr(Site(DROP), "log") or hasattr(FreeSite(DROP), "log"))

    def test_properties_that_are_not_set(self):
        site = LoggedSite(DROP)
        for name in ("book", "wishes", "most", "undoable", "redoable", "depth", "log"):
            with self.subTest(name=name), self.assertRaises(AttributeError):
                setattr(site, name, None)

    def test_sites_are_equal_only_to_themselves(self):
        site = Site(DROP)
        self.assertEqual((site == site, site == Site(DROP), site == DROP, site != Site(DROP)), (True, False, False, True))


class AskedTest(unittest.TestCase):

    def test_as_a_book(self):
        for kind in (Site, LoggedSite, FreeSite, LoggedFreeSite):
            site = kind(Book(A, B))
            self.assertEqual((len(site), site.rules, site[0], site[1]), (2, (A, B), A, B))
            self.assertIs(type(site.rules), tuple)
            self.assertEqual((A in site, Rule("b", ["x"], ("c", ["y"])) in site, LOOP in site), (True, True, False))
            for value in NO_WORDS + (DROP, [A], (A,), FlatRule("b", ("x",), ("c", ("y",)))):
                self.assertIs(value in site, False)
            for value in NO_INDEXES + (2, 3, -1, True, False):
                with self.subTest(value=repr(value)), self.assertRaises(OutOfRange) as caught:
                    site[value]
                self.assertIs(caught.exception.value, value)
            with self.assertRaises(OutOfRange):
                kind(Book())[0]
            for action in (iter, list):
                with self.assertRaises(TypeError):
                    action(site)

    def test_ends(self):
        for kind in (Site, LoggedSite, FreeSite, LoggedFreeSite):
            site = kind(DROP)
            self.assertEqual(site(address("s:/x/y/z")), address("s:/x"))
            self.assertEqual(site(address=address("s:/x/y/x/r")), address("t:/x/r"))
            self.assertEqual(site(address("q:/a")), address("q:/a"))
            site.take(0)
            self.assertEqual(site(address("s:/x/x")), address("s:/x"))
            site.undo()
            self.assertEqual(site(address("s:/x/x")), address("t:/x"))


class EditsTest(unittest.TestCase):

    def assert_run(self, site, model, seed, many=25):
        """Rows of edits, undos and redos do to a site what they do to a model."""
        rng = random.Random(f"edits {seed}")
        found = {}
        for _ in range(many):
            if rng.random() < 0.3:
                name = rng.choice(("undo", "redo"))
                count = rng.choice((1, 1, 2, 3, 0, -1, True, None))
                change = getattr(site, name)
                due = model.move(name, count)
                told = self.outcome(rng.choice((lambda: change(count), lambda: change(count=count))))
            else:
                change = drawn_change(rng, len(model.rules))
                due = model.edit(change)
                told = self.outcome(lambda: change(site))
            self.assertEqual(told, due)
            self.assertEqual(shown(site), model.seen())
            found[due and due[0]] = found.get(due and due[0], 0) + 1
        return found

    def outcome(self, action):
        """Return the class and the fields of the error of an action, or None."""
        try:
            action()
            return None
        except Exception as error:
            if isinstance(error, GoesOn):
                self.assertIs(type(error.__cause__), Unsettled)
                self.assertIs(error.__cause__.address, error.address)
            return fields_of(error)

    def test_beside_a_model(self):
        found = {}
        for seed in range(60):
            rng = random.Random(f"sites {seed}")
            wishes = tuple(rng.sample([HOLDS, Wish("t", ("b",), ("t", ("b",))), Wish("s", (), ("s", ())),
                                       Wish("u", ("a", "b"), ("u", ("a", "b")))], rng.randint(0, 2)))
            most = rng.choice((None, None, 0, 1, 5, 30))
            site, model = LoggedSite(Book(), *wishes, most=most), Model((), wishes, most)
            for kind, count in self.assert_run(site, model, seed).items():
                found[kind] = found.get(kind, 0) + count
            self.assertEqual(site.log, tuple(model.log))
            self.assert_guards(site, wishes, most)
        for kind in (None, GoesOn, TooFar, Broken, OutOfRange, NotARule, TooMany):
            self.assertGreater(found[kind], 10, kind)

    def assert_guards(self, site, wishes, most):
        """The guards hold, in all editions."""
        for each in site.editions():
            self.assertIsNone(never_settles(each))
            self.assertTrue(most is None or beyond(each, most) is None)
            self.assertEqual([wish.broken(each) for wish in wishes], [None] * len(wishes))

    def test_rules_that_lead_to_one_state(self):
        first, second, third = [Rule(state, ("a",), ("t", ())) for state in "svw"]
        for kind, guarded in ((Site, True), (LoggedSite, True), (FreeSite, False), (LoggedFreeSite, False)):
            site = kind(Book(first))
            site.insert(1, third)
            site.insert(0, second)
            self.assertEqual(site.rules, (second, first, third))
            site.undo()
            self.assertEqual((site.rules, site.undoable, site.redoable), ((first, third), 1, 1))
            back = Rule("t", (), ("s", ("a",)))
            due = (GoesOn, {"address": 0}) if guarded else None
            self.assertEqual(self.outcome(lambda: site.insert(0, back)), due)
            self.assertEqual((len(site), site.undoable, site.redoable), (2, 1, 1) if guarded else (3, 2, 0))
            with site.trial():
                self.assertEqual(self.outcome(lambda: site.set_rules([third, first, back])), due)
                self.assertIsNone(site.insert(0, second))
            self.assertEqual(len(site), 2 if guarded else 3)

    def test_guards_of_small_books_beside_followed_runs(self):
        found = {True: 0, False: 0}
        for seed in range(80):
            rng = random.Random(f"guards {seed}")
            site, rules = Site(Book()), []
            for _ in range(6):
                at = rng.randint(0, len(rules))
                new = rules[:at] + [drawn_rule(rng, "stu", "ab")] + rules[at:]
                books = naive.plain(Book.of(new))
                lost = [len(path) for path in naive.paths(("a", "b", "x", "y"), 3) for state in "stu"
                        if naive.end(books, (state, path), 200, 40) in (None, "long")]
                due = (GoesOn, {"address": min(lost)}) if lost else None
                self.assertEqual(self.outcome(lambda: site.insert(at, new[at])), due)
                rules = rules if lost else new
                self.assertEqual(site.rules, tuple(rules))
                found[due is None] += 1
                if len(rules) == 4:
                    site.undo(4)
                    rules = []
        self.assertGreater(min(found.values()), 40)

    def test_free_sites_beside_a_model(self):
        for seed in range(20):
            site, model = LoggedFreeSite(Book()), Model((), is_free=True)
            found = self.assert_run(site, model, seed + 1000)
            self.assertFalse({GoesOn, TooFar, Broken} & set(found))
            self.assertEqual(site.log, tuple(model.log))
            plain = FreeSite(Book())
            self.assert_run(plain, Model((), is_free=True), seed + 1000)
            self.assertEqual(plain.rules, site.rules)

    def test_the_order_of_errors(self):
        site = Site(book("t / to u /", "u / to v /"), Wish("s", (), ("s", ())), most=2)
        wrong = "rule"
        for change, told in (
            (lambda: site.__setitem__(2, wrong), (OutOfRange, {"value": 2})), (lambda: site.__setitem__(0, wrong), (NotARule, {"index": 0})),
            (lambda: site.insert(3, wrong), (OutOfRange, {"value": 3})), (lambda: site.insert(1, wrong), (NotARule, {"index": 1})),
            (lambda: site.take(2), (OutOfRange, {"value": 2})), (lambda: site.set_rules("ab"), (NotARule, {"index": -1})),
            (lambda: site.set_rules([LOOP, wrong]), (NotARule, {"index": 1})), (lambda: setattr(site, "rules", None), (NotARule, {"index": -1})),
            (lambda: site.set_rules([LOOP] * 13), (TooMany, {"limit": 12})), (lambda: joined(site, Book(*[LOOP] * 11)), (TooMany, {"limit": 12})),
            (lambda: site.insert(0, LOOP), (GoesOn, {"address": 1})), (lambda: joined(site, LOOP), (GoesOn, {"address": 1})),
            (lambda: site.set_rules([LOOP, Rule("t", (1, 1), ("t", (1, 1)))]), (GoesOn, {"address": 1})),
            # More steps than allowed ahead of a wish that breaks as well.
            (lambda: joined(site, book("v / to w /", "s / to t /")), (TooFar, {"address": 0})),
            (lambda: site.insert(2, Rule("s", ("a",), ("t", ()))), (TooFar, {"address": 1})),
            (lambda: site.insert(2, Rule("s", ("a",), ("v", ()))), (Broken, {"index": 0})),
        ):
            self.assertEqual(self.outcome(change), told)
            self.assertEqual((len(site), site.undoable, site.redoable), (2, 0, 0))

    def test_edits_that_change_nothing_count(self):
        site = LoggedSite(Book(A, B))
        same = site
        site[0] = A
        site |= Book()
        site.set_rules(site.rules)
        site.rules = [A, B]
        self.assertIs(site, same)
        self.assertEqual((site.undoable, site.rules), (4, (A, B)))
        self.assertEqual(site.log, (("edit", 2),) * 4)
        site.undo(4)
        site.redo(2)
        site[1] = B
        self.assertEqual((site.undoable, site.redoable), (3, 0))
        self.assertEqual(site.log[4:], (("undo", 4), ("redo", 2), ("edit", 2)))

    def test_results_of_edits(self):
        site = Site(Book())
        self.assertEqual((site.insert(0, A), site.set_rules([A, B]), site.take(0), site.undo(), site.redo(count=1)), (None,) * 5)

    def test_undo_and_redo(self):
        site = Site(Book())
        last = Rule("c", ())
        for rule in (A, B, last):
            site |= rule
        self.assertEqual((site.undoable, site.redoable), (3, 0))
        site.undo()
        self.assertEqual((site.rules, site.undoable, site.redoable), ((A, B), 2, 1))
        site.undo(2)
        self.assertEqual((site.rules, site.undoable, site.redoable), ((), 0, 3))
        site.redo(2)
        self.assertEqual((site.rules, site.undoable, site.redoable), ((A, B), 2, 1))
        site.redo(count=1)
        site.undo(count=3)
        site.redo(3)
        self.assertEqual((site.rules, site.undoable, site.redoable), ((A, B, last), 3, 0))
        site.undo(2)
        site.take(0)
        self.assertEqual((site.rules, site.undoable, site.redoable), ((), 2, 0))
        self.assertEqual([each.rules for each in site.editions()], [(), (A,), ()])

    def test_counts_that_are_refused(self):
        for kind in (Site, LoggedSite, FreeSite, LoggedFreeSite):
            site = kind(Book())
            for rule in (A, B, A, B):
                site |= rule
            site.undo(2)
            for value in NO_COUNTS + (3,):
                for move in (site.undo, site.redo):
                    with self.subTest(value=repr(value)), self.assertRaises(OutOfRange) as caught:
                        move(value)
                    self.assertIs(caught.exception.value, value)
                    self.assertEqual((site.undoable, site.redoable, len(site)), (2, 2, 2))
            with self.assertRaises(OutOfRange) as caught:
                kind(DROP).undo()
            self.assertEqual(caught.exception.value, 1)
            with self.assertRaises(OutOfRange):
                kind(DROP).redo()

    def test_editions_are_copies_that_are_made_when_the_first_is_requested(self):
        site = Site(Book())
        told = site.editions()
        self.assertIsInstance(told, types.GeneratorType)
        site |= A
        site |= B
        first = next(told)
        site.undo()
        site |= A
        self.assertEqual([each.rules for each in (first, *told)], [(), (A,), (A, B)])
        first |= A
        for each in site.editions():
            each |= B
        self.assertEqual([each.rules for each in site.editions()], [(), (A,), (A, A)])
        self.assertEqual(site.rules, (A, A))

    def test_edited_copies(self):
        one = book("s / to t /")
        site = Site(one, most=1)
        other = book("t / to u /")
        with self.assertRaises(TooFar):
            site |= other
        rules = [A, B]
        site.rules = rules
        rules.append(LOOP)
        self.assertEqual(site.rules, (A, B))
        other = Book(B)
        site |= other
        other.insert(0, LOOP)
        self.assertEqual(site.rules, (A, B, B))


class FreeTest(unittest.TestCase):

    def test_without_guards(self):
        for kind in (FreeSite, LoggedFreeSite):
            site = kind(TURNING)
            self.assertEqual((site.wishes, site.most), ((), None))
            self.assertIsInstance(site, Site)
            start = address("s:/a/b")
            with self.assertRaises(Unsettled) as caught:
                site(start)
            self.assertIs(caught.exception.address, start)
            self.assertEqual(site(address("s:/a")), address("s:/a"))
            site.set_rules(DROP.rules)
            self.assertEqual(site(start), address("s:/a"))
            site |= LOOP
            site.insert(0, LOOP)
            site[1] = LOOP
            site.rules = [LOOP] * 12
            with self.assertRaises(TooMany):
                site |= LOOP
            with self.assertRaises(NotARule):
                site[0] = None
            self.assertEqual((len(site), site.undoable), (12, 5))
            site.undo(5)
            self.assertEqual(site.book, TURNING)
            with self.assertRaises(TypeError):
                kind(DROP, HOLDS)
            with self.assertRaises(TypeError):
                kind(DROP, most=3)
            self.assertEqual(kind(book=DROP).book, DROP)

    def test_a_logged_free_site_is_both(self):
        site = LoggedFreeSite(TURNING)
        self.assertTrue(isinstance(site, LoggedSite) and isinstance(site, FreeSite))
        site |= LOOP
        site.undo()
        self.assertEqual(site.log, (("edit", 2), ("undo", 1)))


class LogTest(unittest.TestCase):

    def test_only_what_succeeds(self):
        site = LoggedSite(DROP, HOLDS, most=None)
        self.assertEqual(site.log, ())
        for action in (lambda: site.take(7), lambda: site.insert(0, None), lambda: joined(site, LOOP), site.undo, lambda: site.redo(2),
                       lambda: site.insert(0, Rule("q", (), ("s", ())))):
            with self.assertRaises(Exception):
                action()
        self.assertEqual(site.log, ())
        site.insert(2, Rule("u", ()))
        told = site.log
        site.take(2)
        site.undo(2)
        site.redo()
        site.rules = []
        site |= DROP
        self.assertEqual(site.log, (("edit", 3), ("edit", 2), ("undo", 2), ("redo", 1), ("edit", 0), ("edit", 2)))
        self.assertEqual((told, type(site.log)), ((("edit", 3),), tuple))

    def test_of_gives_a_logged_site(self):
        site = LoggedSite.of(DROP, [HOLDS])
        self.assertIs(type(site), LoggedSite)
        site.take(0)
        self.assertEqual((site.log, site.wishes), ((("edit", 1),), (HOLDS,)))
        self.assertIs(type(Site.of(DROP, [])), Site)


if __name__ == "__main__":
    unittest.main()

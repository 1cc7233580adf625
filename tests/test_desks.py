"""Lines about a site, and their answers: [51] and the interface of desks.py."""

import inspect
import unittest

from sentonward import desks as module
from sentonward.books import Book
from sentonward.desks import Desk, answers
from sentonward.ends import end_of, never_settles
from sentonward.errors import Broken, CommandError, GoesOn, InTrial, InvalidRule, OutOfRange, TooFar, TooMany
from sentonward.longest import longest
from sentonward.rules import Rule
from sentonward.sites import FreeSite, LoggedFreeSite, LoggedSite, Site
from sentonward.uses import dead, needless
from sentonward.wishes import Wish
from tests.drawn import DROP, address, book, drawn_book
from tests.models import fields_of, shown
from tests.test_ends import GROWING, TURNING
from tests.test_flat import HUNDRED, HUNDRED_AND_ONE
from tests.test_rules import NO_RULES, NOT_OF_THE_FORM
from tests.test_tables import LEVELS
from tests.values import NO_STRINGS, ODD_STRINGS, WORDS

DIGITS = "9" * 30

# Right lines, each of them once without and once with try.
QUESTIONS = ("book", "end s:/x/y", "next s:/x/y", "rule s:/x/y", "never", "longest", "dead", "needless", "flat")
EDITS = ("put 0 u /.. stays", "put 2 u / to v /a", "set 1 s /1/2/.. to s /2/..", "drop 0")

NO_INDEX = (
    "", "00", "01", "007", "-1", "+1", "1.0", "1_0", "0x1", "a", "1a", "\u0661", "\u00b2", " 1", "1 ", "9" * 31, "1" + "0" * 30,
    "None", "True", "/", "1,2", "'1'", "0 0",
)

NO_ADDRESS = ("", "s", "s/a", "S:", ":", ":/a", "s:/", "s:/a/", "s:a", "s:/A", "s:/a b", "s:/abcdefghi", "s:/1", "s: /a", "s::", "s:/a:")

NO_LINES = NO_STRINGS + ODD_STRINGS + WORDS + (
    # Words more, less or otherwise, and spaces more or less.
    "put", "put 0", "put 0 ", "put  0 s / stays", "put 0  s / stays", "put 0 s / stays ", " put 0 s / stays", "put 0 s /  stays",
    "Put 0 s / stays", "put s / stays 0", "put 0 0 s / stays", "put 0 s / stays\n", "put\t0 s / stays", "puts 0 s / stays",
    "put 0 s / stays s / stays", "put 0 s:/a", "insert 0 s / stays", "set", "set 0", "set 0 ", "set s / stays", "set 0 s /", "sets 0 s / stays",
    "drop", "drop ", "drop 0 0", "drop  0", "drop 0 ", " drop 0", "drop0", "drop 0 s / stays", "take 0", "Drop 0", "drop\n0",
    "undo ", " undo", "undo 1", "undo undo", "Undo", "undo\n", "un do", "redo ", "redo 1", " redo", "REDO", "book ", "book 0", " book",
    "book book", "books", "end", "end ", "end  s:", "end s: ", "end s: s:", "End s:", "ends s:", "end s:/a 1", "next", "next ", "next s: s:",
    "rule", "rule ", "rule 0", "rule s / stays", "rule s: s:", "never ", "never s:", "longest 1", "longest ", "most", "more", "dead 0", "dead ",
    "needless ", "needless 0", "flat ", "flat 1", "ok", "-", "log", "keep", "trial", "never never", "s / stays", "s:/a", "0",
    # Tried lines that are none, or are tried again.
    "try", "try ", "try  ", "try try", "try try book", "try try drop 0", "try  book", "try book ", " try book", "Try book", "trybook",
    "try put", "try put 0", "try put 0 s", "try drop", "try drop 00", "try end", "try end s", "try 0", "try -", "tries book", "try undo 1",
    "try put 0 s / stay", "book\nbook", "try book\n", "try\nbook",
) + tuple(f"{verb} {index}{rest}" for index in NO_INDEX for verb, rest in (("put", " s / stays"), ("set", " s / stays"), ("drop", ""))) + tuple(
    f"{verb} {text}" for text in NO_ADDRESS for verb in ("end", "next", "rule", "try end", "try next", "try rule")) + tuple(
    f"{verb} 0 {text}" for text in NOT_OF_THE_FORM for verb in ("put", "set", "try put"))


def sites(one=DROP):
    """Return a new site of each kind."""
    return Site(one), LoggedSite(one), FreeSite(one), LoggedFreeSite(one)


class DeskTest(unittest.TestCase):

    def test_the_site_itself(self):
        for site in sites():
            desk = Desk(site)
            self.assertIs(desk.site, site)
            self.assertIs(Desk(site=site).site, site)
            with self.assertRaises(AttributeError):
                desk.site = site
            self.assertEqual((desk.run(line="drop 0"), len(site)), ("ok", 1))
            self.assertEqual((desk(line="undo"), len(site)), ("ok", 2))

    def test_edits(self):
        for site in sites():
            desk = Desk(site)
            for run in (desk, desk.run):
                for line, rules in (
                    ("put 0 u /.. stays", ["u /.. stays", "s /1/1/.. to t /1/..", "s /1/2/.. to s /1/.."]),
                    ("put 3 v /a stays", ["u /.. stays", "s /1/1/.. to t /1/..", "s /1/2/.. to s /1/..", "v /a stays"]),
                    ("drop 1", ["u /.. stays", "s /1/2/.. to s /1/..", "v /a stays"]),
                    ("set 0 u /1/.. to v /1/b/..", ["u /1/.. to v /1/b/..", "s /1/2/.. to s /1/..", "v /a stays"]),
                    ("undo", ["u /.. stays", "s /1/2/.. to s /1/..", "v /a stays"]),
                    ("redo", ["u /1/.. to v /1/b/..", "s /1/2/.. to s /1/..", "v /a stays"]),
                    ("drop 2", ["u /1/.. to v /1/b/..", "s /1/2/.. to s /1/.."]), ("drop 1", ["u /1/.. to v /1/b/.."]), ("drop 0", []),
                ):
                    self.assertEqual(run(line), "ok")
                    self.assertEqual([rule.text() for rule in site.rules], rules)
                    self.assertEqual(run("book"), "\n".join(rules) if rules else "-")
                while site.undoable:
                    self.assertEqual(run("undo"), "ok")

    def test_questions(self):
        for one in (DROP, TURNING, GROWING, Book(), LEVELS, HUNDRED, HUNDRED_AND_ONE) + tuple(drawn_book(seed) for seed in range(25)):
            site = FreeSite(one)
            desk = Desk(site)
            self.assertEqual(desk("book"), one.text() or "-")
            for text in ("s:", "s:/a", "s:/a/a", "s:/x/y/x/r", "t:/b", "other:/a/b"):
                start = address(text)
                told, after, first = end_of(one, start), one.after(start), one.first(start)
                self.assertEqual(desk(f"end {text}"), "never" if told is None else f"{told[0].text()} {told[1]}")
                self.assertEqual(desk(f"next {text}"), "-" if after is None else after.text())
                self.assertEqual(desk(f"rule {text}"), "-" if first is None else str(first))
            never, most = never_settles(one), longest(one)
            self.assertEqual(desk("never"), "-" if never is None else never.text())
            self.assertEqual(desk("longest"), "more" if most[0] == "more" else f"most {most[1]}")
            self.assertEqual(desk("dead"), " ".join(map(str, dead(one))) or "-")
            self.assertEqual(desk("needless"), " ".join(map(str, needless(one))) or "-")
            self.assertEqual(desk("flat") == "never", never is not None)
            self.assertEqual(shown(site)[1:3], (0, 0))

    def test_answers_by_hand(self):
        several = book("s / to t /", "s /a/.. stays", "s /a/b to u /", "s /.. stays", "t /1/1/.. to t /1/..", "t /a/.. to t /..", "s /.. stays")
        for one, line, right in (
            (DROP, "end s:/x/y/z", "s:/x 2"), (DROP, "end s:/x", "s:/x 0"), (DROP, "end q:", "q: 0"), (TURNING, "end s:/a/b", "never"),
            (DROP, "next s:/x/x/y", "t:/x/y"), (DROP, "next s:/x", "-"), (DROP, "rule s:/x/x", "0"), (DROP, "rule s:/x/y", "1"),
            (DROP, "rule s:/x", "-"), (several, "rule s:/a/b", "1"), (several, "next s:/a/b", "-"), (book("s /1/1/.. to s /1/1/.."), "never", "s:/a/a"), (DROP, "never", "-"),
            (DROP, "longest", "more"), (book("s / to t /"), "longest", "most 1"), (Book(), "longest", "most 0"), (several, "dead", "2 6"),
            (several, "needless", "2 3 6"), (DROP, "dead", "-"), (DROP, "needless", "-"), (Book(), "book", "-"), (Book(), "dead", "-"),
            (DROP, "flat", "barred"), (TURNING, "flat", "never"), (HUNDRED, "flat", "ok"), (HUNDRED_AND_ONE, "flat", "many"), (Book(), "flat", "ok"),
            (LEVELS, "end s:/a/a", f"s: {2 ** 36 - 1}"), (LEVELS, "end s:/a/a/b/b/x", f"s:/x {2 ** 36 - 1 + 2 ** 29 - 1}"),
            (TURNING, "next s:/a/b", "s:/b/a"), (book("s /a to s /a"), "next s:/a", "s:/a"),
        ):
            site = FreeSite(one)
            with self.subTest(line=line, book=one.text()):
                self.assertEqual(Desk(site)(line), right)
                self.assertEqual(Desk(site)(f"try {line}"), right)

    def test_tried_lines(self):
        for site in sites():
            desk = Desk(site)
            site |= Rule("q", ())
            before = shown(site)
            for line in QUESTIONS:
                self.assertEqual(desk(f"try {line}"), desk(line))
                self.assertEqual(shown(site), before)
            for line in EDITS:
                self.assertEqual(desk(f"try {line}"), "ok")
                self.assertEqual(shown(site), before)
            for line in ("try undo", "try redo"):
                with self.assertRaises(InTrial):
                    desk(line)
                self.assertEqual(shown(site), before)
        site = LoggedSite(DROP)
        desk = Desk(site)
        for line in ("try book", "try drop 0", "drop 0", "try undo", "undo", "try put 0 s /1/.. to s /1/.."):
            try:
                desk(line)
            except (InTrial, GoesOn):
                continue
        self.assertEqual(site.log, (("trial", False), ("edit", 1), ("trial", False), ("edit", 1), ("trial", False), ("undo", 1), ("trial", False)))

    def test_what_is_no_line(self):
        for site in (LoggedSite(DROP), LoggedFreeSite(DROP)):
            desk = Desk(site)
            for line in NO_LINES:
                for run in (desk, desk.run):
                    with self.subTest(line=repr(line)), self.assertRaises(CommandError) as caught:
                        run(line)
                    self.assertIs(caught.exception.value, line)
            self.assertEqual((site.log, site.book), ((), DROP))

    def test_right_lines_with_one_change(self):
        site = LoggedFreeSite(DROP)
        desk, lines = Desk(site), QUESTIONS + EDITS + ("undo", "redo")
        for line in lines:
            words = line.split(" ")
            for at in range(len(words) + 1):
                others = [words[:at] + [""] + words[at:], words[:at] + ["0"] + words[at:], words[:at] + ["try"] + words[at:]]
                others += [words[:at] + words[at + 1:], words[:at] + [words[at].upper() + "A"] + words[at + 1:]] if at < len(words) else []
                for other in others:
                    text = " ".join(other)
                    if text not in lines and text != f"try {line}":
                        with self.subTest(line=text), self.assertRaises(CommandError) as caught:
                            desk(text)
                        self.assertEqual(caught.exception.value, text)
        self.assertEqual(site.log, ())

    def test_rules_that_are_wrong(self):
        for site in (LoggedSite(DROP), LoggedFreeSite(DROP)):
            desk = Desk(site)
            for text, field in NO_RULES:
                for line in (f"put 0 {text}", f"set 9 {text}", f"put {DIGITS} {text}", f"try put 0 {text}", f"try set 1 {text}", f"try put 7 {text}"):
                    with self.subTest(line=line), self.assertRaises(InvalidRule) as caught:
                        desk(line)
                    self.assertEqual(caught.exception.field, field)
                for line in (f"put 00 {text}", f"try set -1 {text}", f"put 0  {text}", f"try try put 0 {text}", f"try set {DIGITS}9 {text}"):
                    with self.subTest(line=line), self.assertRaises(CommandError):
                        desk(line)
            # A trial has not begun.
            self.assertEqual(site.log, ())

    def test_errors_of_the_operations(self):
        site = LoggedSite(book("t / to u /", "u / to v /"), Wish("s", (), ("s", ())), most=2)
        desk = Desk(site)
        for line, right in (
            ("put 3 s / stays", (OutOfRange, {"value": 3})), ("set 2 s / stays", (OutOfRange, {"value": 2})), ("drop 2", (OutOfRange, {"value": 2})),
            (f"drop {DIGITS}", (OutOfRange, {"value": int(DIGITS)})), (f"put {DIGITS} s / stays", (OutOfRange, {"value": int(DIGITS)})),
            ("put 0 s /1/.. to s /1/..", (GoesOn, {"address": 1})), ("set 1 u /1/1/.. to u /1/1/..", (GoesOn, {"address": 2})),
            ("put 2 v / to w /", (TooFar, {"address": 0})), ("put 0 s /a to x /", (Broken, {"index": 0})),
            ("undo", (OutOfRange, {"value": 1})), ("redo", (OutOfRange, {"value": 1})),
        ):
            for whole in (line, f"try {line}"):
                due = (InTrial, {}) if whole in ("try undo", "try redo") else right
                with self.subTest(line=whole), self.assertRaises(due[0]) as caught:
                    desk(whole)
                self.assertEqual(fields_of(caught.exception), due)
        self.assertEqual(site.log, (("trial", False),) * 11)
        full = Desk(FreeSite(book(*["s /.. stays"] * 12)))
        with self.assertRaises(TooMany):
            full("put 0 s /.. stays")
        words = Desk(FreeSite(book(*[f"s /{word}/.. stays" for word in "abcdef"])))
        with self.assertRaises(TooMany):
            words("try put 0 s /g/.. stays")

    def test_indexes(self):
        desk = Desk(FreeSite(book(*[f"s /{word}/.. stays" for word in "abcdef"] * 2)))
        self.assertEqual(desk("drop 11"), "ok")
        self.assertEqual(desk("put 10 t / stays"), "ok")
        self.assertEqual(desk("set 0 u / stays"), "ok")
        self.assertEqual([desk.site[at].text() for at in (0, 10)], ["u / stays", "t / stays"])

    def test_signatures(self):
        for function, told in ((Desk, "(site)"), (Desk.run, "(self, line)"), (Desk.__call__, "(self, line)"), (answers, "(site, lines)")):
            self.assertEqual(str(inspect.signature(function)), told)
        for name in ("__init__", "site", "run", "__call__"):
            self.assertIn(name, vars(Desk))
        self.assertEqual((Desk.__module__, answers.__module__), (module.__name__, module.__name__))


class AnswersTest(unittest.TestCase):

    def test_as_one_attempt(self):
        for site in sites():
            site |= Rule("q", ())
            site.undo()
            told = answers(site, ["book", "drop 0", "try drop 0", "end s:/x/x", "put 0 u / stays", "longest", "dead"])
            self.assertEqual(told, [DROP.text(), "ok", "ok", "s:/x 1", "ok", "more", "-"])
            self.assertEqual((type(told), site.undoable, site.redoable, site.depth), (list, 1, 0, 0))
            self.assertEqual([rule.text() for rule in site.rules], ["u / stays", "s /1/2/.. to s /1/.."])
            site.undo()
            self.assertEqual(site.book, DROP)

    def test_no_lines(self):
        site = LoggedSite(DROP)
        self.assertEqual(answers(site, []), [])
        self.assertEqual(answers(lines=(), site=site), [])
        self.assertEqual((site.log, site.undoable), ((("trial", True),) * 2, 2))

    def test_a_line_that_is_refused(self):
        for error, line in ((CommandError, "dropped"), (CommandError, None), (CommandError, ["drop 0"]), (OutOfRange, "drop 9"), (InTrial, "undo"),
                            (InvalidRule, "put 0 s /1/1/1 stays"), (GoesOn, "put 0 s /1/.. to s /1/.."), (InTrial, "try redo"),
                            (GoesOn, "try put 0 s /1/.. to s /1/..")):
            site = LoggedSite(DROP)
            with self.subTest(line=repr(line)), self.assertRaises(error) as caught:
                answers(site, ["drop 0", "book", line, "drop 0"])
            if error is CommandError:
                self.assertIs(caught.exception.value, line)
            self.assertEqual((site.book, site.undoable, site.redoable, site.depth), (DROP, 0, 0, 0))
            inner = (("trial", False),) if str(line).startswith("try") else ()
            self.assertEqual(site.log, (("edit", 1), *inner, ("trial", False)))

    def test_in_a_block(self):
        site = LoggedSite(DROP)
        self.assertEqual(site.tried(lambda held: answers(held, ["drop 0", "book"])), ["ok", "s /1/2/.. to s /1/.."])
        self.assertEqual((site.book, site.undoable), (DROP, 0))
        self.assertEqual(site.log, (("edit", 1), ("trial", True), ("trial", False)))
        lines = ["drop 0"]
        answers(site, lines)
        self.assertEqual(lines, ["drop 0"])


if __name__ == "__main__":
    unittest.main()

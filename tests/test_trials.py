"""Blocks of sites: trial, attempt and tried, within one another, and their logs: [50]."""

import random
import unittest

from sentonward.books import Book
from sentonward.errors import GoesOn, InTrial, NotARule, OutOfRange
from sentonward.rules import Rule
from sentonward.sites import FreeSite, LoggedFreeSite, LoggedSite, Site
from sentonward.wishes import Wish
from tests.drawn import DROP, address
from tests.models import Model, shown
from tests.test_sites import A, B, HOLDS, LOOP, NO_COUNTS, drawn_change

C = Rule("c", ("x",), ("d", ()))
KINDS = (Site, LoggedSite, FreeSite, LoggedFreeSite)


class Stop(Exception):
    """What leaves a block in the tests."""


def started(kind=LoggedSite):
    """Return a site with two edits that can be undone and one that can be redone, and these three books."""
    site = kind(Book())
    site |= A
    site |= B
    site |= C
    site.undo()
    return site


class TrialTest(unittest.TestCase):

    def test_a_block_that_is_not_kept(self):
        for kind in KINDS:
            site = started(kind)
            before = shown(site)
            with site.trial() as held:
                self.assertIs(held, site)
                held.take(0)
                site |= A
                self.assertEqual(shown(site), ((B, A), 2, 1, [(), (A,), (B, A)], 1))
            self.assertEqual(shown(site), before)
            site.redo()
            self.assertEqual(site.rules, (A, B, C))

    def test_a_block_that_is_kept(self):
        for kind in KINDS:
            for early in (True, False):
                site = started(kind)
                block = site.trial()
                if early:
                    self.assertIsNone(block.keep())
                with block as held:
                    held.take(0)
                    held.insert(0, C)
                    if not early:
                        block.keep()
                    held |= A
                    self.assertEqual(shown(site), ((C, B, A), 2, 1, [(), (A,), (C, B, A)], 1))
                self.assertEqual(shown(site), ((C, B, A), 3, 0, [(), (A,), (A, B), (C, B, A)], 0))
                site.undo()
                self.assertEqual(shown(site), ((A, B), 2, 1, [(), (A,), (A, B)], 0))
                site.redo()
                self.assertEqual(site.rules, (C, B, A))

    def test_a_kept_block_without_edits_counts(self):
        site = started()
        block = site.trial()
        block.keep()
        with block:
            pass
        self.assertEqual(shown(site), ((A, B), 3, 0, [(), (A,), (A, B), (A, B)], 0))
        with site.trial():
            pass
        self.assertEqual((site.undoable, site.redoable), (3, 0))
        site.undo()
        with site.trial():
            pass
        self.assertEqual((site.undoable, site.redoable), (2, 1))

    def test_a_trial_that_is_not_begun(self):
        site = started()
        before, log = shown(site), site.log
        site.trial()
        site.trial().keep()
        self.assertEqual((shown(site), site.log), (before, log))

    def test_exceptions_take_everything_back(self):
        for kind in KINDS:
            for is_kept in (True, False):
                site = started(kind)
                before = shown(site)
                with self.assertRaises(Stop):
                    block = site.trial()
                    with block:
                        site |= A
                        if is_kept:
                            block.keep()
                        raise Stop()
                self.assertEqual(shown(site), before)
                with self.assertRaises(NotARule), site.trial() as held:
                    held.take(0)
                    held[0] = None
                self.assertEqual(shown(site), before)

    def test_errors_that_are_caught_in_the_block(self):
        site = started()
        block = site.trial()
        block.keep()
        with block:
            site |= C
            with self.assertRaises(GoesOn):
                site |= LOOP
            with self.assertRaises(OutOfRange):
                site.take(9)
        self.assertEqual(site.rules, (A, B, C))
        self.assertEqual(site.log[-2:], (("edit", 3), ("trial", True)))

    def test_guards_hold_in_blocks(self):
        site = Site(DROP, HOLDS)
        with self.assertRaises(GoesOn), site.trial() as held:
            held |= LOOP
        free = FreeSite(DROP)
        with free.trial() as held:
            held |= LOOP
            self.assertEqual(len(held), 3)
        self.assertEqual((len(site), len(free)), (2, 2))

    def test_undo_and_redo_in_blocks(self):
        for kind in KINDS:
            site = started(kind)
            for block in (lambda action: site.attempt(action), lambda action: site.tried(action)):
                def refused(held):
                    for value in NO_COUNTS + (1, 2, 3):
                        for move in (site.undo, held.redo):
                            with self.assertRaises(InTrial) as caught:
                                move(value)
                            self.assertEqual(vars(caught.exception), {})
                    with self.assertRaises(InTrial):
                        held.undo()
                    held.insert(0, C)
                    with self.assertRaises(InTrial):
                        held.redo()
                block(refused)
            self.assertEqual(shown(site), ((C, A, B), 3, 0, [(), (A,), (A, B), (C, A, B)], 0))
            site.undo(3)
            self.assertEqual(site.rules, ())

    def test_blocks_within_blocks(self):
        site = started()
        outer, inner, last = site.trial(), site.trial(), site.trial()
        outer.keep()
        last.keep()
        with outer:
            site |= C
            with inner:
                site.take(0)
                with last:
                    site.take(0)
                    self.assertEqual(shown(site), ((C,), 2, 1, [(), (A,), (C,)], 3))
                self.assertEqual(shown(site), ((C,), 2, 1, [(), (A,), (C,)], 2))
            self.assertEqual(shown(site), ((A, B, C), 2, 1, [(), (A,), (A, B, C)], 1))
            with site.trial() as held:
                held.rules = []
            site |= A
        self.assertEqual(shown(site), ((A, B, C, A), 3, 0, [(), (A,), (A, B), (A, B, C, A)], 0))
        self.assertEqual(site.log[4:], (
            ("edit", 3), ("edit", 2), ("edit", 1), ("trial", True), ("trial", False), ("edit", 0), ("trial", False), ("edit", 4),
            ("trial", True)))

    def test_inner_blocks_belong_to_the_outer_one(self):
        site = started()
        before = shown(site)
        with site.trial():
            site.attempt(lambda held: held.take(0))
            site.attempt(lambda held: None)
            self.assertEqual(shown(site), ((B,), 2, 1, [(), (A,), (B,)], 1))
        self.assertEqual(shown(site), before)
        outer = site.trial()
        outer.keep()
        with outer:
            with self.assertRaises(Stop), site.trial() as held:
                held.take(0)
                raise Stop()
            self.assertEqual(site.rules, (A, B))
            site.attempt(lambda held: held.take(0))
        self.assertEqual(shown(site), ((B,), 3, 0, [(), (A,), (A, B), (B,)], 0))

    def test_attempt_and_tried(self):
        for kind in KINDS:
            site = started(kind)
            before = shown(site)

            def action(held):
                self.assertIs(held, site)
                self.assertEqual(site.depth, 1)
                held |= A
                return held.rules

            self.assertEqual(site.tried(action), (A, B, A))
            self.assertEqual(shown(site), before)
            self.assertEqual(site.attempt(action=action), (A, B, A))
            self.assertEqual(shown(site), ((A, B, A), 3, 0, [(), (A,), (A, B), (A, B, A)], 0))
            self.assertEqual(site.tried(action=len), 3)
            self.assertIsNone(site.attempt(lambda held: None))
            self.assertEqual(site.undoable, 4)

            def failing(held):
                held.take(0)
                raise Stop()

            before = shown(site)
            for block in (site.attempt, site.tried):
                with self.assertRaises(Stop):
                    block(failing)
                self.assertEqual(shown(site), before)

    def test_asked_in_a_block(self):
        site = LoggedSite(DROP, HOLDS)
        with site.trial() as held:
            held.take(0)
            self.assertEqual((len(site), held[0] in site, site(address("s:/x/x")), site.book.rules), (1, True, address("s:/x"), site.rules))
        self.assertEqual(site(address("s:/x/x")), address("t:/x"))

    def test_depth_behind_exceptions(self):
        site = started()
        for _ in range(3):
            with self.assertRaises(Stop):
                with site.trial(), site.trial(), site.trial():
                    self.assertEqual(site.depth, 3)
                    raise Stop()
            self.assertEqual(site.depth, 0)
        site.undo()


class ModelTest(unittest.TestCase):
    """Drawn actions in blocks that are up to three deep, beside the model."""

    def act(self, site, model, rng, deep):
        """Do some drawn actions; sometimes an exception leaves them."""
        for _ in range(rng.randint(0, 4)):
            way = rng.random()
            name = rng.choice(("undo", "redo"))
            if way < 0.15:
                count = rng.choice((1, 2, 0, None))
                self.check(lambda: getattr(site, name)(count), model.move(name, count))
            elif way < 0.65 or deep == 3:
                change = drawn_change(rng, len(model.rules))
                self.check(lambda: change(site), model.edit(change))
            else:
                self.block(site, model, rng, deep)
            self.assertEqual(shown(site), model.seen())
            if deep and rng.random() < 0.07:
                raise Stop()

    def check(self, action, due):
        try:
            action()
            self.assertIsNone(due)
        except Exception as error:
            self.assertIs(type(error), due and due[0])

    def block(self, site, model, rng, deep):
        """Run a drawn block; an exception may leave it, and may be caught behind it."""
        kind, is_kept, is_caught = rng.choice(("trial", "attempt", "tried")), rng.random() < 0.5, rng.random() < 0.6
        is_kept = kind == "attempt" or kind == "trial" and is_kept
        before = model.begin()
        done = {}

        def action(held):
            self.assertIs(held, site)
            self.act(rng.choice((held, site)), model, rng, deep + 1)
            done["whole"] = True
            return deep

        try:
            if kind == "trial":
                block = site.trial()
                is_early = rng.random() < 0.5
                if is_kept and is_early:
                    block.keep()
                with block as held:
                    if is_kept and not is_early:
                        block.keep()
                    action(held)
            else:
                self.assertEqual(getattr(site, kind)(action), deep)
        except Stop:
            model.end(before, False)
            if not is_caught and deep:
                raise
        else:
            self.assertTrue(done["whole"])
            model.end(before, is_kept)
        self.assertEqual(shown(site), model.seen())

    def test_drawn_programs(self):
        entries = set()
        for seed in range(150):
            rng = random.Random(f"trials {seed}")
            wishes = (HOLDS, Wish("t", ("b",), ("t", ("b",))))[:rng.randint(0, 2)]
            if seed % 3:
                site, model = LoggedSite(Book(), *wishes), Model((), wishes)
            else:
                site, model = LoggedFreeSite(Book()), Model((), is_free=True)
            for _ in range(6):
                self.act(site, model, rng, 0)
            self.assertEqual(site.log, tuple(model.log))
            entries |= {entry for entry in site.log if entry[0] == "trial"} | {entry[0] for entry in site.log}
        self.assertEqual(entries, {"edit", "undo", "redo", "trial", ("trial", True), ("trial", False)})


class LogTest(unittest.TestCase):

    def test_entries_stay_behind_a_block_that_is_taken_back(self):
        site = started()
        self.assertEqual(site.log, (("edit", 1), ("edit", 2), ("edit", 3), ("undo", 1)))
        site.tried(lambda held: held.take(0))
        self.assertEqual(site.log[4:], (("edit", 1), ("trial", False)))
        site.attempt(lambda held: held.take(0))
        self.assertEqual(site.log[6:], (("edit", 1), ("trial", True)))
        block = site.trial()
        with self.assertRaises(Stop), block:
            block.keep()
            site |= A
            raise Stop()
        self.assertEqual(site.log[8:], (("edit", 2), ("trial", False)))
        site.undo()
        self.assertEqual(site.log[10:], (("undo", 1),))

    def test_entries_in_order_within_blocks(self):
        site = LoggedFreeSite(Book())
        told = []
        with site.trial():
            site |= A
            told.append(site.log)
            with self.assertRaises(Stop), site.trial():
                told.append(site.log)
                raise Stop()
            told.append(site.log)
            site.attempt(lambda held: told.append(held.log))
        told.append(site.log)
        begun, ended = (("edit", 1),), (("edit", 1), ("trial", False))
        self.assertEqual(told, [begun, begun, ended, ended, ended + (("trial", True), ("trial", False))])


if __name__ == "__main__":
    unittest.main()

"""The first rule that fits, the next address and the run: [13], [14]."""

import itertools
import unittest

from sentonward.addresses import Address
from sentonward.books import Book
from sentonward.rules import Rule
from tests import naive
from tests.drawn import DROP, OTHERS, WORDS, address, book, drawn_book


def plain(one):
    """Return an address as a tuple of its state and its path."""
    return one.state, one.path


class RunTest(unittest.TestCase):

    def assert_as_told(self, one, start):
        """first, after and walk go with the run that is followed step by step."""
        rules = naive.plain(one)[0]
        fitting = [at for at, rule in enumerate(rules) if naive.fits(rule, plain(start))]
        self.assertEqual(one.first(start), fitting[0] if fitting else None)
        sent = naive.following(rules, plain(start))
        after = one.after(start)
        self.assertEqual(None if after is None else plain(after), sent)
        walked = [plain(each) for each in itertools.islice(one.walk(start), 12)]
        told = [plain(start)]
        while sent is not None and len(told) < 12:
            told.append(sent)
            sent = naive.following(rules, sent)
        self.assertEqual(walked, told)

    def test_all_short_addresses(self):
        for seed in range(60):
            one = drawn_book(seed)
            states = sorted(set(one.states) | {"other"})
            for state, path in itertools.product(states, naive.paths(WORDS[:2] + OTHERS, 3)):
                self.assert_as_told(one, Address(state, path))

    def test_long_addresses(self):
        for seed in range(20):
            one = drawn_book(seed)
            for state in one.states:
                self.assert_as_told(one, Address(state, ("a", "x", "x", "b", "y") * 40))

    def test_by_hand(self):
        self.assertEqual([each.text() for each in DROP.walk(address("s:/x/y/x/r"))],
                         ["s:/x/y/x/r", "s:/x/x/r", "t:/x/r"])
        self.assertEqual((DROP.first(address("s:/x/x")), DROP.first(address("s:/x"))), (0, None))
        self.assertIsNone(DROP.after(address("t:/x/x")))
        self.assertEqual(list(Book().walk(address("s:/a"))), [address("s:/a")])
        self.assertEqual(DROP.first(address=address("s:/x/y")), 1)
        self.assertEqual(DROP.after(address=address("s:/x/y")), address("s:/x"))
        self.assertEqual(len(list(DROP.walk(address=address("s:/x/y")))), 2)

    def test_the_first_rule_that_fits_applies(self):
        one = book("s /a/.. stays", "s /1/.. to t /1/..", "s /.. to u /..")
        self.assertEqual([one.first(address(text)) for text in ("s:/a/b", "s:/b/a", "s:", "t:/a")], [0, 1, 2, None])
        self.assertEqual([one.after(address(text)) for text in ("s:/a/b", "t:")], [None, None])
        self.assertEqual(one.after(address("s:")), address("u:"))

    def test_a_rule_that_sends_an_address_to_itself_does_not_let_it_stay(self):
        one = Book(Rule("s", (1,), ("s", (1,))))
        start = address("s:/a/b")
        self.assertEqual(one.after(start), start)
        self.assertEqual(list(itertools.islice(one.walk(start), 50)), [start] * 50)

    def test_runs_that_loop_and_runs_that_grow(self):
        turning = book("s /1/2/.. to t /2/1/..", "t /1/.. to s /1/..")
        self.assertEqual([each.text() for each in itertools.islice(turning.walk(address("s:/a/b")), 5)],
                         ["s:/a/b", "t:/b/a", "s:/b/a", "t:/a/b", "s:/a/b"])
        growing = book("s /1/.. to s /1/a/1/..")
        self.assertEqual([len(each) for each in itertools.islice(growing.walk(address("s:/b")), 20)],
                         list(range(1, 40, 2)))

    def test_walk_reads_the_rules_when_its_first_value_is_requested(self):
        one = book("s /1/.. to s /..")
        told = one.walk(address("s:/a/b/c"))
        one.rules = [Rule("s", ("a",), ("u", ()))]
        self.assertEqual(next(told), address("s:/a/b/c"))
        one.rules = []
        self.assertEqual([each.text() for each in told], ["u:/b/c"])

    def test_after_a_change_the_new_rules_apply(self):
        one = book("s /1/.. to s /..")
        self.assertEqual(one.after(address("s:/a")), address("s:"))
        one[0] = Rule("s", (), ("t", ()))
        self.assertEqual((one.after(address("s:/a")), one.first(address("s:"))), (address("t:/a"), 0))
        one.take(0)
        self.assertEqual((one.after(address("s:/a")), one.first(address("s:"))), (None, None))


if __name__ == "__main__":
    unittest.main()

"""Chains of books: [15] and the interface of books.py."""

import inspect
import itertools
import unittest

from sentonward.addresses import Address
from sentonward.books import Book, Chain
from sentonward.errors import InvalidAddress, NotABook, TooFew, TooMany
from sentonward.rules import Rule
from tests.drawn import DROP, book
from tests.values import NO_WORDS

A = book("a /x/.. to b /y/..")
B = book("c /1/.. to a /1/z/..", "b / stays")
EMPTY = Book()

NO_BOOK = NO_WORDS + (Rule("s", ()), [A, B], (A,), Chain(A, B), "s / stays", {0: A})


class ChainTest(unittest.TestCase):

    def assert_raised(self, error, value, make):
        with self.assertRaises(error) as caught:
            make()
        self.assertEqual(list(vars(caught.exception).values()), [value])

    def test_made(self):
        for books in ((A, B), (A, A, EMPTY), (A, B, DROP, EMPTY), (EMPTY, EMPTY)):
            for chain in (Chain(*books), Chain.of(list(books)), Chain.of(books=tuple(books))):
                self.assertIs(type(chain.books), list)
                self.assertEqual(chain.books, list(books))

    def test_states_and_words(self):
        chain = Chain(B, A, DROP)
        self.assertEqual((chain.states, chain.words), (("a", "b", "c", "s", "t"), ("x", "y", "z")))
        self.assertEqual((Chain(EMPTY, EMPTY).states, Chain(EMPTY, EMPTY).words), ((), ()))

    def test_refused(self):
        for value in NO_BOOK:
            with self.subTest(value=repr(value)):
                self.assert_raised(NotABook, 0, lambda: Chain(value))
                self.assert_raised(NotABook, 1, lambda: Chain(A, value, B, value))
                self.assert_raised(NotABook, 5, lambda: Chain(A, B, A, B, A, value))
                self.assert_raised(NotABook, 1, lambda: Chain.of([A, value]))
        self.assert_raised(TooMany, 4, lambda: Chain(A, B, A, B, A))
        self.assert_raised(TooFew, 2, Chain)
        self.assert_raised(TooFew, 2, lambda: Chain(A))
        self.assert_raised(TooFew, 2, lambda: Chain.of([]))
        self.assert_raised(TooMany, 4, lambda: Chain.of([A] * 7))

    def test_copies_on_the_way_in_and_out(self):
        one, other = A.copied(), B.copied()
        books = [one, other]
        chain = Chain.of(books)
        one.take(0)
        books.append(one)
        other.rules = []
        self.assertEqual(chain.books, [A, B])
        told = chain.books
        told[0].insert(0, Rule("q", ()))
        told.pop()
        self.assertEqual(chain.books, [A, B])
        self.assertEqual(chain, Chain(A, B))
        self.assertIsNot(chain.books[0], chain.books[0])

    def test_chains_never_change(self):
        for name in ("books", "states", "words"):
            with self.assertRaises(AttributeError):
                setattr(Chain(A, B), name, [A, B])

    def test_equality(self):
        chains = [Chain(A, B), Chain(B, A), Chain(A, A), Chain(A, B, A), Chain(A, B, EMPTY), Chain(EMPTY, EMPTY)]
        for (at, one), (to, other) in itertools.product(enumerate(chains), enumerate(list(chains))):
            self.assertEqual((one == other, one != other), (at == to, at != to))
        self.assertEqual(Chain(A, B), Chain(A.copied(), B.copied()))
        for value in NO_WORDS + (A, [A, B], (A, B)):
            self.assertIs(Chain(A, B) == value, False)
            self.assertIs(value != Chain(A, B), True)

    def test_joined(self):
        self.assertEqual(A + B, Chain(A, B))
        self.assertEqual(A + A, Chain(A, A))
        self.assertEqual(A + B + DROP, Chain(A, B, DROP))
        self.assertEqual(A + (B + DROP), Chain(A, B, DROP))
        self.assertEqual((A + B) + (DROP + A), Chain(A, B, DROP, A))
        self.assertEqual(A + (B + DROP) + EMPTY, Chain(A, B, DROP, EMPTY))
        self.assertIsInstance(A + B, Chain)
        one = A.copied()
        chain = one + B
        one.take(0)
        self.assertEqual(chain, Chain(A, B))

    def test_too_many_are_joined(self):
        three, four = Chain(A, A, B), Chain(A, B, A, B)
        for make in (lambda: three + (A + B), lambda: four + A, lambda: A + four, lambda: four + four):
            self.assert_raised(TooMany, 4, make)
        self.assertEqual(four.books, [A, B, A, B])

    def test_what_is_no_book_is_not_joined(self):
        for value in (None, 1, "a", [A], (A,), Rule("s", ())):
            for make in (lambda: A + value, lambda: value + A, lambda: (A + B) + value, lambda: value + (A + B)):
                with self.subTest(value=repr(value)), self.assertRaises(TypeError):
                    make()

    def test_addresses_refuse_rules_and_lists_of_books(self):
        for value in (Rule("s", ()), [A], (A, B)):
            for make in (lambda: Address("s") + value, lambda: value + Address("s")):
                self.assert_raised(InvalidAddress, "path", make)

    def test_signatures(self):
        self.assertEqual(str(inspect.signature(Chain)), "(*books)")
        self.assertEqual(str(inspect.signature(Chain.of)), "(books)")
        for name in ("__init__", "of", "books", "states", "words", "__eq__", "__add__"):
            self.assertIn(name, vars(Chain))
        self.assertEqual(Chain.__module__, "sentonward.books")


if __name__ == "__main__":
    unittest.main()

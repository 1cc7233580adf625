"""Far addresses and their ends: [3] and the interface of far.py."""

import inspect
import random
import unittest

from sentonward import far
from sentonward.addresses import Address
from sentonward.books import Book, Chain
from sentonward.ends import end_of
from sentonward.errors import InvalidAddress
from sentonward.far import Far, far_end, size_of
from tests.drawn import DROP, address, book, drawn_book, drawn_chain
from tests.test_tables import LEVELS
from tests.values import NO_STRINGS, NO_WORDS, ODD_STRINGS, WORDS

MOST = 10 ** 30

NO_PIECES = tuple(value for value in NO_STRINGS if value not in ((), [])) + ODD_STRINGS + WORDS + (
    [(["a"], 1)] * 21, ((["a"], 0),) * 21, [["a", 1]], [[["a"], 1]], [(["a"], 1), (["a"], 1, 1)], [(["a"],)], [()],
    [([], 1)], [((), 0)], [(["a"] * 9, 1)], [(("a",) * 9, 0)], [("a", 1)], [("abc", 1)], [(None, 1)], [({"a": 1}, 1)],
    [([""], 1)], [(["A"], 1)], [([1], 1)], [(["a", None], 1)], [(["a", "abcdefghi"], 1)], [([["a"]], 1)],
    [(["a"], -1)], [(["a"], MOST + 1)], [(["a"], True)], [(["a"], False)], [(["a"], None)], [(["a"], "1")],
    [(["a"], (1,))], [(1, ["a"])], [(["a"], 1), None], [(["a"], 1), (["b"], 2), (["c"], 10 ** 31)], (["a"], 1),
    Address("s", ["a"]), DROP,
)


def whole(one):
    """Return the path of a far address, written out."""
    return tuple(word for segments, times in one.pieces for word in segments * times)


class FarTest(unittest.TestCase):

    def assert_invalid(self, field, *told):
        with self.assertRaises(InvalidAddress) as caught:
            Far(*told)
        self.assertEqual(caught.exception.field, field)

    def test_made(self):
        for pieces in (
            [], (), [(["a"], 1)], ((("a", "b"), 0), (["c"], MOST)), [(["a"] * 8, 3)] * 20, [(("web", "a", "a"), 10 ** 9)],
        ):
            one = Far("s", pieces)
            told = tuple((tuple(segments), times) for segments, times in pieces)
            self.assertEqual((one.state, one.pieces), ("s", told))
            self.assertIs(type(one.pieces), tuple)
            self.assertTrue(all(type(piece) is tuple and type(piece[0]) is tuple for piece in one.pieces))
        self.assertEqual(Far(pieces=[(["a"], 2)], state="web").pieces, ((("a",), 2),))

    def test_refused_states(self):
        for value in NO_WORDS:
            with self.subTest(value=repr(value)):
                self.assert_invalid("state", value, [(["a"], 1)])
                self.assert_invalid("state", value, None)

    def test_refused_pieces(self):
        for value in NO_PIECES:
            with self.subTest(value=repr(value)):
                self.assert_invalid("pieces", "s", value)

    def test_copies(self):
        segments, pieces = ["a"], []
        pieces.append((segments, 2))
        one = Far("s", pieces)
        segments.append("b")
        pieces.clear()
        self.assertEqual(one.pieces, ((("a",), 2),))

    def test_far_addresses_never_change(self):
        one = Far("s", [])
        for name in ("state", "pieces"):
            with self.assertRaises(AttributeError):
                setattr(one, name, ())

    def test_size(self):
        self.assertEqual(size_of(Far("s", [])), 0)
        self.assertEqual(size_of(Far("s", [(["a"], 0)])), 0)
        self.assertEqual(size_of(Far("s", [(["a", "b"], 3), (["c"], MOST), (["a"] * 8, 2)])), MOST + 22)
        self.assertEqual(size_of(far=Far("s", [(["a"] * 8, MOST)] * 20)), 160 * MOST)

    def test_signatures(self):
        self.assertEqual(str(inspect.signature(Far)), "(state, pieces)")
        self.assertEqual(str(inspect.signature(size_of)), "(far)")
        self.assertEqual(str(inspect.signature(far_end)), "(system, far)")
        for each in (Far, size_of, far_end):
            self.assertEqual(each.__module__, far.__name__)
        for name in ("state", "pieces"):
            self.assertIn(name, vars(Far))


class FarEndTest(unittest.TestCase):

    def assert_as_written_out(self, system, one):
        """far_end goes with end_of of the path written out, with as much left as can be."""
        path = whole(one)
        self.assertEqual(len(path), size_of(one))
        right, told = end_of(system, Address(one.state, path)), far_end(system, one)
        if right is None:
            self.assertIsNone(told)
            return
        state, beginning, left, steps = told
        end = right[0].path
        self.assertEqual((state, steps), (right[0].state, right[1]))
        self.assertIs(type(beginning), tuple)
        self.assertEqual(beginning + path[len(path) - left:], end)
        self.assertTrue(left in (len(path), len(end)) or end[-1 - left] != path[-1 - left])

    def test_drawn(self):
        rng = random.Random(11)
        for seed in range(150):
            system = drawn_book(seed) if seed % 3 else drawn_chain(seed, 2 + seed % 4 % 3, 2, 2, 4)
            for state in (*system.states, "other"):
                for _ in range(6):
                    pieces = [
                        ([rng.choice("aabbxy") for _ in range(rng.choice((1, 1, 2, 2, 3, 8)))], rng.choice((0, 1, 2, 5, 9)))
                        for _ in range(rng.randint(0, 4))
                    ]
                    self.assert_as_written_out(system, Far(state, pieces))

    def test_by_hand(self):
        self.assertEqual(far_end(DROP, Far("s", [(["x"], 1), (["y", "z"], MOST), (["x", "r"], 1)])),
                         ("t", (), 2, 2 * MOST + 1))
        self.assertEqual(far_end(book("s /a/.. to t /a/.."), Far("s", [(["a"], 1)])), ("t", (), 1, 1))
        self.assertEqual(far_end(far=Far("s", [(["a"], MOST)]), system=book("s /a/.. to t /a/..")), ("t", (), MOST, 1))
        self.assertEqual(far_end(book("s /1/.. to t /b/.."), Far("s", [(["a"], MOST)])), ("t", ("b",), MOST - 1, 1))
        self.assertEqual(far_end(book("s /1/.. to t /..", "t /.. to u /a/.."), Far("s", [(["b"], 1), (["a"], MOST)])),
                         ("u", ("a",), MOST, 2))
        # What has been put in front is as what stood there.
        self.assertEqual(far_end(book("s /1/.. to t /a/.."), Far("s", [(["b"], 1), (["a"], MOST)])),
                         ("t", ("a",), MOST, 1))
        self.assertEqual(far_end(book("s /1/2/.. to t /2/.."), Far("s", [(["b", "a"], 3)])), ("t", (), 5, 1))
        self.assertEqual(far_end(book("s /1/.. to s /.."), Far("s", [(["b", "a"], MOST)])), ("s", (), 0, 2 * MOST))

    def test_states_that_no_rule_has(self):
        for pieces in ([], [(["a"], 0)], [(["a", "b"], MOST)] * 20):
            one = Far("other", pieces)
            self.assertEqual(far_end(DROP, one), ("other", (), size_of(one), 0))
            self.assertEqual(far_end(Book(), one), ("other", (), size_of(one), 0))
            self.assertEqual(far_end(Chain(DROP, DROP), one), ("other", (), size_of(one), 0))

    def test_runs_that_never_end(self):
        growing, turning = book("s /1/.. to s /a/1/.."), book("s /1/2/.. to s /2/1/..")
        for times in (1, 2, MOST):
            self.assertIsNone(far_end(growing, Far("s", [(["x"], times)])))
            self.assertIsNone(far_end(turning, Far("s", [(["x", "y"], times)])))
            self.assertIsNone(far_end(Chain(DROP, book("t /1/.. to t /1/..")), Far("s", [(["x"], 2), (["y"], times)])))
        late = book("s /a/.. to s /..", "s /b/.. to s /b/..")
        self.assertIsNone(far_end(late, Far("s", [(["a"], MOST), (["b"], 1)])))
        self.assertEqual(far_end(late, Far("s", [(["a"], MOST), (["c"], 1)])), ("s", (), 1, MOST))
        at_the_end = book("s /1/1/.. to s /1/..", "s /a to s /a")
        self.assertIsNone(far_end(at_the_end, Far("s", [(["a"], MOST)])))
        self.assertEqual(far_end(at_the_end, Far("s", [(["b"], MOST)])), ("s", (), 1, MOST - 1))

    def test_all_pieces_and_the_most_times(self):
        dropped = book("s /1/.. to s /..")
        pieces = [([word] * 8, MOST) for word in "abcdefghijklmnopqrst"]
        self.assertEqual(far_end(dropped, Far("s", pieces)), ("s", (), 0, 160 * MOST))
        kept = book("s /1/2/.. to s /1/..")
        self.assertEqual(far_end(kept, Far("s", pieces)), ("s", ("a",), 0, 160 * MOST - 1))
        turned = book("s /1/2/.. to t /1/..", "t /1/2/.. to s /1/..", "t /1 to u /even", "s /1 to u /odd")
        self.assertEqual(far_end(turned, Far("s", pieces)), ("u", ("even",), 0, 160 * MOST))
        odd = [(["a", "b", "c"], MOST - 1), (["d", "d"], 1)]
        self.assertEqual(far_end(turned, Far("s", odd)), ("u", ("odd",), 0, 3 * (MOST - 1) + 2))
        even = [(["a", "b", "c"], MOST - 1), (["even"], 1)]
        self.assertEqual(far_end(turned, Far("s", even)), ("u", (), 1, 3 * (MOST - 1) + 1))

    def test_chains(self):
        chain = Chain(book("s /a/.. to s /..", "s /b/.. to t /.."), book("t /a/.. to t /..", "t /b/.. to u /.."))
        one = Far("s", [(["a"], MOST), (["b"], 1), (["a", "a"], MOST), (["b"], 1), (["c", "b"], MOST)])
        self.assertEqual(far_end(chain, one), ("u", (), 2 * MOST, 3 * MOST + 2))

    def test_many_steps(self):
        one = Far("s", [(["a", "a"], MOST), (["f", "e"], 1), (["f", "f"], MOST)])
        self.assertEqual(far_end(LEVELS, one), ("s", (), 0, (2 ** 36 - 1) * MOST + 3 + MOST))

    def test_an_address_beside(self):
        self.assertEqual(end_of(DROP, address("s:/x/y/z/y/z/x/r"))[1],
                         far_end(DROP, Far("s", [(["x"], 1), (["y", "z"], 2), (["x", "r"], 1)]))[3])


if __name__ == "__main__":
    unittest.main()

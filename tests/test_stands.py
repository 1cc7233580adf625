"""The stands of a system as a graph, entered as far as it is needed: [20] to [23]."""

import unittest

from sentonward.books import Book
from sentonward.ends import end_of
from sentonward.stands import Graph, first_lost, ordered, settling, whole_graph
from sentonward.views import fed
from tests.drawn import DROP, book, drawn_book, drawn_chain
from tests.test_ends import GROWING, NEVER, TURNING

SYSTEMS = [drawn_book(f"stands {seed}", 3, 2, 5) for seed in range(60)] + [
    drawn_chain(f"stands {seed}", books, 2, 2, 3) for seed in range(15) for books in (2, 3)
]


class GraphTest(unittest.TestCase):

    def test_by_hand(self):
        graph = whole_graph(DROP)
        self.assertEqual([views[0][3] for views in graph.search.nodes], [(), (1,), (1, 1), (1, 2)])
        self.assertEqual(graph.stops, [0, 0, 1, 1])
        self.assertEqual(graph.moves[0], [(1, 0, 1)])
        self.assertEqual(graph.moves[1], [(1, 0, 2), (2, 0, 3)])
        self.assertEqual(graph.moves[2], [(1, 1, None), (2, 1, None)])
        self.assertEqual(graph.moves[3], [(1, 1, 2), (2, 1, 3), (3, 1, 3)])
        self.assertEqual([after[3] for after in graph.afters[3]], [(1, 1), (1, 2), (1, 3)])
        self.assertEqual(graph.ends[3], ("settled", 0, "s", (1,)))
        self.assertIsNone(graph.lost)
        self.assertEqual(graph.beginnings(), [("s", 0)])
        self.assertEqual((graph.spelled("s", [1, 1], 4).text(), graph.spelled("s", [1, 2], 0).text()), ("s:/a/a/a/a", "s:/a/b"))

    def test_moves_are_what_is_read(self):
        for system in SYSTEMS:
            graph = whole_graph(system)
            self.assertEqual(len(graph.moves), len(graph.search.nodes))
            for at, (view,) in enumerate(graph.search.nodes):
                end, steps = fed(graph.team, view, (), True)
                self.assertEqual((graph.ends[at], graph.stops[at]), (end, None if end[0] == "never" else steps))
                signs = graph.joint.next_signs((view,))
                told = [fed(graph.team, view, (sign,), False) for sign in signs]
                self.assertEqual(graph.afters[at], [after for after, _ in told if after[0] != "never"])
                due = [(sign, steps, after[0]) for sign, (after, steps) in zip(signs, told) if after[0] != "never"]
                self.assertEqual([(sign, steps, "settled" if target is None else "on")
                                  for sign, steps, target in graph.moves[at]], due)
                for (_, _, target), after in zip(graph.moves[at], graph.afters[at]):
                    if target is not None:
                        self.assertEqual(graph.joint.plain((after,))[0], graph.search.nodes[target])
                        self.assertEqual(graph.search.place_of((after,)), target)

    def test_the_first_lost_one(self):
        for system, many in NEVER:
            told = first_lost(Graph(system))
            self.assertEqual(None if told is None else len(told), many)
            if told is not None:
                self.assertIsNone(end_of(system, told))
        for system in SYSTEMS:
            for graph in (Graph(system), whole_graph(system)):
                told = first_lost(graph)
                is_lost = None in graph.stops or graph.lost is not None
                self.assertEqual(told is not None, is_lost)
                if told is not None:
                    self.assertIsNone(end_of(system, told))
            # What is entered one by one, and what has been entered, tell the same.
            self.assertEqual(first_lost(Graph(system)), first_lost(whole_graph(system)))

    def test_no_more_is_entered_than_is_needed(self):
        graph = Graph(book("s /.. to s /..", "t /1/2/.. to t /1/.."))
        self.assertEqual((graph.moves, len(graph.search.nodes)), ([], 2))
        self.assertEqual((first_lost(graph).text(), len(graph.moves)), ("s:", 1))
        graph.complete()
        self.assertEqual(len(graph.moves), len(graph.search.nodes))
        self.assertEqual(first_lost(graph).text(), "s:")
        for one, most in ((GROWING, 2), (TURNING, 4), (book("s /1/1 to t /", "s /1/1/.. to s /1/1/1/.."), 4)):
            graph = Graph(one)
            first_lost(graph)
            self.assertLessEqual(len(graph.moves), most)
        self.assertEqual(first_lost(Graph(Book())), None)

    def test_ways_and_orders(self):
        graph = whole_graph(DROP)
        ways = settling(graph)
        self.assertEqual(sorted(ways), [0, 1, 2, 3])
        # The stand that leads to itself, and what leads to it, have no place in an order.
        self.assertEqual(ordered(graph, ways), [2])
        self.assertEqual(settling(whole_graph(book("s /.. to s /.."))), {})


if __name__ == "__main__":
    unittest.main()

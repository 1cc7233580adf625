"""The cheapest rules to remove, and bars against cheaper ones: [41] and the interface of strikes.py."""

import inspect
import itertools
import random
import unittest

from sentonward import strikes as module
from sentonward.addresses import Address
from sentonward.books import Book
from sentonward.ends import end_of
from sentonward.errors import InvalidPrices
from sentonward.strikes import bars, cheapest, is_bars, mends
from tests import naive
from tests.drawn import DROP, OTHERS, address, book, drawn_book
from tests.test_ends import GROWING, TURNING
from tests.values import NO_WORDS, nested

GREAT = 10 ** 30

BOOKS = [drawn_book(seed, 2, 1, 3) for seed in range(120)] + [
    # What lets addresses stay stands ahead of what sends them, so taking it away makes it worse.
    book("s /a/.. stays", "s /1/.. to s /1/..", "t / to t /"), book("s /.. stays", "s /1/.. to s /1/1/..", "s / to s /a"),
    book("s /a stays", "s /a/.. to t /a/..", "t /1/.. to s /1/.."), TURNING, GROWING, DROP, Book(),
    book("s /1/.. to s /1/..", "s /.. to t /..", "t /.. to s /.."), book("s / to s /", "t / to t /", "u / to u /"),
    book("s /1/.. to t /1/..", "t /1/.. to u /1/..", "u /1/.. to s /1/..", "s /.. stays"),
]

PRICE_LISTS = ((1, 1, 1, 1, 1, 1), (3, 2, 1, 4, 6, 5), (GREAT, 1, GREAT, 2, 1, 7), (GREAT,) * 6)

NO_PRICES = tuple(value for value in NO_WORDS if value != {}) + (
    [], (), [(0, 1)], ((0, 1),), {0: 0}, {0: -1}, {0: GREAT + 1}, {0: True}, {0: False}, {0: None}, {0: "1"}, {0: b"1"},
    {0: (1,)}, {0: [1]}, {0: {}}, {0: 1, 1: 0}, {1: 5, 0: 10 ** 99}, {True: 1}, {False: 1}, {0: 1, True: 1}, {-1: 1}, {8: 1},
    {0: 1, 8: 1}, {"0": 1}, {None: 1}, {(0,): 1}, {b"0": 1}, {10 ** 40: 1}, {at: 1 for at in range(7)}, {at: 1 for at in range(8)},
    {1: 1.5}, DROP, DROP + DROP, address("s:"), nested(20), {"a": 1}, {0: {0: 1}},
)

EIGHT = book(*["s /.. stays"] * 8)


def prices_of(one, seed):
    """Return some dicts of prices for rules of a book."""
    rng = random.Random(f"prices {seed}")
    told = [{}]
    for prices in PRICE_LISTS:
        indexes = sorted(rng.sample(range(len(one)), rng.randint(1, len(one)))) if len(one) else []
        told.append({index: prices[index] for index in indexes})
    told.append({index: 1 for index in reversed(range(len(one)))})
    return told


def chosen(prices):
    """Return a list of all tuples (cost, choice)."""
    return [(sum(prices[index] for index in choice), choice)
            for many in range(len(prices) + 1) for choice in itertools.combinations(sorted(prices), many)]


def least(one, prices):
    """Return the cost of the cheapest choice that mends a book, or None."""
    return min([cost for cost, choice in chosen(prices) if mends(one, choice)], default=None)


class MendsTest(unittest.TestCase):

    def test_drawn_books(self):
        found = {True: 0, False: 0}
        paths = naive.paths(("a",) + OTHERS, 3)
        for one in BOOKS:
            for _, choice in chosen({index: 1 for index in range(len(one))}):
                told = mends(one, choice)
                rest = [[rule for at, rule in enumerate(naive.plain(one)[0]) if at not in choice]]
                lost = [path for path in paths for state in ("s", "t", "u") if naive.end(rest, (state, path), 300, 60) in (None, "long")]
                self.assertIs(told, lost == [])
                found[told] += 1
        self.assertGreater(found[True], 100)
        self.assertGreater(found[False], 100)

    def test_by_hand(self):
        one = book("s /a/.. stays", "s /1/.. to s /1/..")
        for choice, right in (([], False), ([0], False), ([1], True), ([1, 0], True), ((0, 1), True), ((0,), False)):
            self.assertIs(mends(one, choice), right)
        self.assertIs(mends(book("s /.. stays", "s /1/.. to s /1/.."), []), True)
        self.assertIs(mends(book("s /.. stays", "s /1/.. to s /1/.."), [0]), False)
        self.assertIs(mends(choice=[], book=DROP), True)
        choice = [1]
        mends(one, choice)
        self.assertEqual((choice, len(one)), ([1], 2))


class CheapestTest(unittest.TestCase):

    def test_drawn_books(self):
        found = {None: 0, "free": 0, "cost": 0}
        for seed, one in enumerate(BOOKS):
            for prices in prices_of(one, seed):
                told, right = cheapest(one, prices), least(one, prices)
                if right is None:
                    self.assertIsNone(told)
                    found[None] += 1
                    continue
                self.assertEqual((type(told), type(told[1])), (tuple, tuple))
                cost, choice = told
                self.assertEqual((cost, cost), (right, sum(prices[index] for index in choice)))
                self.assertEqual(list(choice), sorted(set(choice)))
                self.assertIs(mends(one, choice), True)
                found["cost" if cost else "free"] += 1
        self.assertGreater(min(found.values()), 50)

    def test_by_hand(self):
        one = book("s /a/.. stays", "s /1/.. to t /1/..", "t /1/.. to s /1/..", "t /.. stays", "u / to u /")
        self.assertIsNone(cheapest(one, {}))
        self.assertIsNone(cheapest(one, {0: 1, 1: 1, 2: 1, 3: 1}))
        self.assertEqual(cheapest(one, {1: 5, 2: 4, 4: 7}), (11, (2, 4)))
        self.assertEqual(cheapest(one, {1: 4, 2: 5, 4: 7}), (11, (1, 4)))
        self.assertIn(cheapest(one, {4: GREAT, 2: GREAT, 1: GREAT}), ((2 * GREAT, (1, 4)), (2 * GREAT, (2, 4))))
        self.assertEqual(cheapest(one, {4: 1, 0: 1, 2: 3, 3: 1}), (4, (2, 4)))
        self.assertEqual(cheapest(DROP, {0: 1}), (0, ()))
        self.assertEqual(cheapest(Book(), {}), (0, ()))
        self.assertEqual(cheapest(prices={0: 2}, book=TURNING), (2, (0,)))
        six = book(*[f"{state} / to {state} /" for state in "stuvwx"], "s /1 to s /")
        self.assertEqual(cheapest(six, {at: 10 ** at for at in range(6)}), (111111, (0, 1, 2, 3, 4, 5)))
        self.assertIsNone(cheapest(six, {at: 1 for at in range(1, 7)}))

    def test_a_cheaper_choice_that_makes_it_worse(self):
        one = book("s /a/.. stays", "s /1/1/.. to s /1/..", "s /a/1/.. to s /1/a/..", "s /1/.. to u /..", "u /.. to u /a/..")
        self.assertEqual(cheapest(one, {0: 1, 1: 1, 2: 1, 3: 3, 4: 5}), (5, (4,)))
        self.assertIsNone(cheapest(one, {0: 1, 3: 1}))


class BarsTest(unittest.TestCase):

    def assert_bar(self, one, prices, bar):
        """A bar has its property, by the run that is followed."""
        self.assertEqual((type(bar), len(bar)), (tuple, 3))
        start, kept, struck = bar
        self.assertIsInstance(start, Address)
        for indexes in (kept, struck):
            self.assertIs(type(indexes), tuple)
            self.assertEqual(list(indexes), sorted(set(indexes)))
        self.assertLessEqual(set(struck), set(prices))
        left = [index for index in range(len(one)) if index not in struck]
        rules = naive.plain(one.without(*struck))[0]
        self.assertIn(naive.end([rules], (start.state, start.path), 300, 100), (None, "long"))
        for each in naive.run(rules, (start.state, start.path), 100):
            self.assertIn(left[naive.first(rules, each)], kept)

    def barred(self, told, choice):
        return any(set(struck) <= set(choice) and not set(kept) & set(choice) for _, kept, struck in told)

    def test_drawn_books(self):
        found = {"none": 0, "bars": 0, "empty": 0}
        for seed, one in enumerate(BOOKS):
            for prices in prices_of(one, seed):
                right, every = least(one, prices), chosen(prices)
                most = max(cost for cost, _ in every)
                costs = {0, 1, -5, most, most + 1} | (set() if right is None else {right - 1, right, right + 1})
                for cost in sorted(costs):
                    told = bars(one, prices, cost)
                    if right is not None and right < cost:
                        self.assertIsNone(told)
                        self.assertIs(is_bars(one, prices, cost, []), False)
                        found["none"] += 1
                        continue
                    self.assertIs(type(told), list)
                    for bar in told:
                        self.assert_bar(one, prices, bar)
                    for price, choice in every:
                        self.assertTrue(price >= cost or self.barred(told, choice))
                    self.assertIs(is_bars(one, prices, cost, told), True)
                    self.assertIs(is_bars(one, prices, cost, told[::-1]), True)
                    self.assertIs(is_bars(one, prices, cost, told + told), True)
                    found["bars" if told else "empty"] += 1
        self.assertGreater(min(found.values()), 100)

    def test_costs(self):
        one = book("s / to s /", "t / to t /")
        prices = {0: 3, 1: 5}
        for cost in (-(10 ** 40), -1, 0):
            self.assertEqual(bars(one, prices, cost), [])
            self.assertIs(is_bars(one, prices, cost, []), True)
        for cost in (1, 3, 4, 5, 8):
            self.assertIs(is_bars(one, prices, cost, bars(one, prices, cost)), True)
            self.assertIs(is_bars(one, prices, cost, []), False)
        self.assertIsNone(bars(one, prices, 9))
        self.assertIsNone(bars(cost=10 ** 40, prices=prices, book=one))
        self.assertIsNone(bars(DROP, {}, 1))
        self.assertEqual(bars(DROP, {}, 0), [])
        self.assertIs(is_bars(value=[], cost=0, prices={}, book=DROP), True)
        self.assertEqual(len(bars(TURNING, {}, 10 ** 40)), 1)

    def test_bars_by_hand(self):
        one = book("s / to s /", "t / to t /", "s /a/.. stays", "u / to u /")
        prices = {0: 3, 1: 5, 2: 1}
        first, second = (address("s:"), (0,), ()), (address("t:"), (1,), ())
        third = (address("u:"), (3,), ())
        self.assertIs(is_bars(one, prices, 8, [first, second]), True)
        self.assertIs(is_bars(one, prices, 8, [second, first]), True)
        self.assertIs(is_bars(one, prices, 8, [third]), True)
        self.assertIs(is_bars(one, prices, 100, [third]), True)
        self.assertIs(is_bars(one, prices, 8, [first, second, third]), True)
        self.assertIs(is_bars(one, prices, 8, [first]), False)
        self.assertIs(is_bars(one, prices, 9, [first, second]), False)
        self.assertIs(is_bars(one, prices, 3, [first]), True)
        self.assertIs(is_bars(one, prices, 4, [first]), False)
        # The rules of the run must be kept, more of them only bar less.
        for bar, is_right in (
            ((address("u:"), (3,), (0, 1)), False), ((address("u:"), (0, 3), ()), False), ((address("u:"), (), ()), False),
            ((address("u:"), (1, 3), ()), False), ((address("u:"), (2,), ()), False), ((address("u:/a"), (3,), ()), False),
            ((address("s:"), (3,), ()), False), ((address("u:"), (3,), (3,)), False), ((address("q:"), (), ()), False),
        ):
            self.assertIs(is_bars(one, prices, 100, [bar]), False)
            self.assertIs(is_bars(one, prices, 100, [third, bar]), bar[1] in ((3,), (0, 3), (1, 3)) and bar[0] == third[0]
                          and 3 not in bar[2])
        # No rule with a price is in this one, so it still bars all choices.
        other = book("s / to s /", "t / stays")
        self.assertIs(is_bars(other, {}, 1, [(address("s:"), (0, 1), ())]), True)
        self.assertIs(is_bars(other, {}, 1, [(address("s:"), (0, 2), ())]), False)

    def test_struck_rules(self):
        # Without the first rule the address goes round by the two behind it.
        one = book("s / to s /", "s / to s /a", "s /a to s /")
        prices = {0: 1, 1: 5}
        first, second = (address("s:"), (0,), ()), (address("s:"), (1, 2), (0,))
        self.assertEqual(cheapest(one, prices), (6, (0, 1)))
        self.assertIs(is_bars(one, prices, 6, bars(one, prices, 6)), True)
        self.assertIs(is_bars(one, prices, 6, [first, second]), True)
        self.assertIs(is_bars(one, prices, 6, [first, (address("s:/a"), (1, 2), (0,))]), True)
        # The indexes are those of the whole book, and those that are struck have prices.
        for bar in ((address("s:"), (0, 1), (0,)), (address("s:"), (1, 2), ()), (address("s:"), (1,), (0,)), first,
                    (address("s:"), (2,), (0,)), (address("s:"), (0, 1, 2), (0,)), (address("s:"), (1, 2), (1,)),
                    (address("s:/b"), (1, 2), (0,)), (address("s:"), (0, 1, 2), ()), (address("s:"), (1, 2), (0, 1))):
            with self.subTest(bar=repr(bar)):
                self.assertIs(is_bars(one, prices, 6, [first, bar]), False)
        self.assertIs(is_bars(one, {1: 5}, 1, [first]), True)
        self.assertIs(is_bars(one, {1: 5}, 1, [first, second]), False)
        self.assertIs(is_bars(one, {0: 1}, 2, [first, second]), True)

    def test_rules_that_let_stay_are_struck(self):
        one = book("s /a/.. stays", "s /1/1/.. to s /1/..", "s /1/.. to t /1/..", "t /1/.. to t /1/..", "t / to t /")
        prices = {0: 1, 4: 3}
        self.assertIs(is_bars(one, prices, 10 ** 9, bars(one, prices, 10 ** 9)), True)
        two = book("s /a/.. stays", "s /a/.. to s /a/a/..")
        self.assertEqual(bars(two, {0: 1}, 1), None)
        self.assertIs(is_bars(two, {0: 1}, 0, [(address("s:/a"), (1,), (0,))]), True)
        self.assertIs(is_bars(two, {0: 1}, 0, [(address("s:/a"), (0, 1), ())]), False)
        self.assertIs(is_bars(two, {}, 0, [(address("s:/a"), (1,), (0,))]), False)

    def test_one_part_otherwise(self):
        changes = 0
        for seed, one in enumerate(BOOKS):
            for prices in prices_of(one, seed)[1:3]:
                right = least(one, prices)
                cost = 10 ** 40 if right is None else right
                told = bars(one, prices, cost)
                for at, (start, kept, struck) in enumerate(told):
                    others = [
                        [start, kept, struck], (start, list(kept), struck), (start, kept, list(struck)), (start, kept), (kept, struck),
                        (start, kept, struck, ()), (start, kept[1:], struck), (start, (), struck), (start.text(), kept, struck),
                        (Address("other", start.path), kept, struck), (start, kept, struck + (99,)), (start, kept + (99,), struck),
                        (start, kept + kept, struck), (start, kept[::-1] + (-1,), struck), None, (), start, (None, kept, struck),
                        (start, None, struck), (start, kept, None), (start, kept, "ab"), (start, {}, struck), (start, kept, {}),
                        ((start.state, start.path), kept, struck), (start, tuple(str(index) for index in kept), struck),
                    ]
                    if 1 in kept or 0 in kept:
                        others.append((start, tuple(index == 1 if index < 2 else index for index in kept), struck))
                    if 1 in struck or 0 in struck:
                        others.append((start, kept, tuple(index == 1 if index < 2 else index for index in struck)))
                    for other in others:
                        with self.subTest(book=one.text(), other=repr(other)):
                            self.assertIs(is_bars(one, prices, cost, told[:at] + [other] + told[at + 1:]), False)
                            changes += 1
                    rest = told[:at] + told[at + 1:]
                    needed = [choice for price, choice in chosen(prices) if price < cost and not self.barred(rest, choice)]
                    self.assertIs(is_bars(one, prices, cost, rest), needed == [])
                self.assertIs(is_bars(one, prices, cost, tuple(told)), False)
        self.assertGreater(changes, 1000)

    def test_drawn_bars(self):
        """Any tuple is taken for a bar exactly if it is one."""
        rng = random.Random(77)
        found = {True: 0, False: 0}
        for one in BOOKS:
            indexes = range(len(one))
            for _ in range(12):
                kept, struck = [tuple(at for at in indexes if rng.random() < share) for share in (0.7, 0.3)]
                start = Address(rng.choice("st"), [rng.choice("axy") for _ in range(rng.randint(0, 3))])
                rules = naive.plain(one.without(*struck))[0]
                left = [index for index in indexes if index not in struck]
                met = [naive.first(rules, each) for each in naive.run(rules, (start.state, start.path), 100)]
                is_right = end_of(one.without(*struck), start) is None and all(left[index] in kept for index in met)
                prices = dict.fromkeys(struck, 1)
                self.assertIs(is_bars(one, prices, 0, [(start, kept, struck)]), is_right)
                found[is_right] += 1
        self.assertGreater(found[True], 100)
        self.assertGreater(found[False], 100)

    def test_values_of_any_kind(self):
        one = book("s / to s /")
        for value in NO_WORDS + (DROP, {}, {0: 1}, nested(20), [None], [[]], [()], [(None, None, None)], [("s", (0,), ())],
                                 ((address("s:"), (0,), ()),), [[address("s:"), (0,), ()]]):
            if value != []:
                with self.subTest(value=repr(value)):
                    self.assertIs(is_bars(one, {}, 1, value), False)
                    self.assertIs(is_bars(one, {0: 1}, -1, value), False)
        self.assertIs(is_bars(one, {}, 1, []), False)
        self.assertIs(is_bars(one, {}, 1, [(address("s:"), (0,), ())]), True)

    def test_the_arguments_stay_as_they_are(self):
        one = book("s / to s /", "t /1/.. to t /1/1/..")
        prices, value = {1: 3, 0: 2}, [(address("s:"), (0,), ()), (address("t:/a"), (1,), ())]
        self.assertIs(is_bars(one, prices, 5, value), True)
        self.assertEqual((list(prices.items()), len(value), len(one)), ([(1, 3), (0, 2)], 2, 2))
        cheapest(one, prices)
        bars(one, prices, 5)
        self.assertEqual(list(prices.items()), [(1, 3), (0, 2)])


class PricesTest(unittest.TestCase):

    def test_refused(self):
        for value in NO_PRICES:
            for function, more in ((cheapest, ()), (bars, (5,)), (is_bars, (5, [])), (is_bars, (5, None))):
                with self.subTest(value=repr(value)), self.assertRaises(InvalidPrices) as caught:
                    function(EIGHT, value, *more)
                self.assertIs(caught.exception.value, value)
        for function, more in ((cheapest, ()), (bars, (0,)), (is_bars, (0, []))):
            with self.assertRaises(InvalidPrices):
                function(Book(), {0: 1}, *more)

    def test_taken(self):
        for value in ({}, {0: 1}, {7: GREAT}, {at: GREAT for at in range(6)}, {at: 1 for at in range(7, 1, -1)}):
            self.assertEqual(cheapest(EIGHT, value), (0, ()))
            self.assertIsNone(bars(EIGHT, value, 1))
            self.assertIs(is_bars(EIGHT, value, 0, []), True)

    def test_signatures(self):
        for name, told in (("mends", "(book, choice)"), ("cheapest", "(book, prices)"), ("bars", "(book, prices, cost)"),
                           ("is_bars", "(book, prices, cost, value)")):
            function = getattr(module, name)
            self.assertEqual(str(inspect.signature(function)), told)
            self.assertEqual(function.__module__, module.__name__)


if __name__ == "__main__":
    unittest.main()

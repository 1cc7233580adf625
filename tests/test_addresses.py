"""Addresses, their order and their texts: [10] and the interface of addresses.py."""

import copy
import inspect
import itertools
import operator
import random
import re
import unittest

from sentonward.addresses import Address
from sentonward.errors import InvalidAddress, InvalidText, OutOfRange
from tests.values import NO_PATHS, NO_STRINGS, NO_WORDS, ODD_STRINGS, WORDS

PATHS = ([], ["a"], ["abcdefgh"], ["a", "b"], ["b", "a"], ["a", "a", "a"], list(WORDS), ["x"] * 300)

# In the order of [10].
ASCENDING = (
    ("a", ()), ("aa", ()), ("ab", ()), ("b", ()), ("zzzzzzzz", ()),
    ("a", ("a",)), ("a", ("aa",)), ("a", ("ab",)), ("a", ("b",)), ("a", ("z",)),
    ("aa", ("a",)), ("aa", ("z",)), ("b", ("a",)), ("b", ("zzzzzzzz",)), ("web", ("a",)),
    ("a", ("a", "a")), ("a", ("a", "b")), ("a", ("a", "zz")), ("a", ("aa", "a")), ("a", ("b", "a")),
    ("b", ("a", "a")), ("b", ("a", "b")), ("c", ("a", "a")),
    ("a", ("a", "a", "a")), ("a", ("a", "a", "b")), ("a", ("b", "a", "a")), ("b", ("a", "a", "a")),
    ("a", ("a",) * 12),
)

COMPARISONS = (operator.eq, operator.ne, operator.lt, operator.le, operator.gt, operator.ge)

# Each text with the length of its longest prefix that begins some valid text.
BAD_TEXTS = (
    ("", 0), (":", 0), ("/", 0), (":/a", 0), ("/a", 0), (" web:", 0), ("\nweb:", 0), ("1web:", 0), ("Web:", 0),
    ("w", 1), ("web", 3), ("abcdefgh", 8), ("abcdefghi", 8), ("abcdefghi:", 8), ("abcdefghi:/a", 8),
    ("wEb:", 1), ("we1:", 2), ("web :", 3), ("web\n", 3), ("web\n:", 3), ("web/a", 3), ("web/a:", 3),
    ("w\u00e9b:", 1), ("web-a:", 3),
    ("web::", 4), ("web:a", 4), ("web: ", 4), ("web:\n", 4), ("web: /a", 4), ("web:1", 4), ("web:A", 4),
    ("web:a/b", 4), ("web:..", 4),
    ("web:/", 5), ("web://", 5), ("web://a", 5), ("web:/:", 5), ("web:/ ", 5), ("web:/ a", 5), ("web:/\n", 5),
    ("web:/A", 5), ("web:/1", 5), ("web:/..", 5), ("web:/\u00e9", 5), ("web:/\u0430", 5),
    ("web:/a/", 7), ("web:/a//", 7), ("web:/a//b", 7), ("web:/a/B", 7), ("web:/a/1", 7), ("web:/a/..", 7),
    ("web:/a ", 6), ("web:/a\n", 6), ("web:/a:", 6), ("web:/a:/b", 6), ("web:/a1", 6), ("web:/aB", 6),
    ("web:/a.", 6), ("web:/a b", 6), ("web:/a\\b", 6), ("web:/a\0", 6),
    ("web:/abcdefgh/", 14), ("web:/abcdefgh1", 13), ("web:/abcdefghi", 13), ("web:/abcdefghi/a", 13),
    ("web:/a/abcdefghi", 15), ("abcdefgh:/abcdefgh/abcdefghi/a", 27), ("abcdefgh:a", 9),
)


def address_of(pair):
    """Return the address of a pair of a state and a path."""
    return Address(pair[0], pair[1])


class MakingTest(unittest.TestCase):

    def assert_invalid(self, field, *told, **named):
        with self.assertRaises(InvalidAddress) as caught:
            Address(*told, **named)
        self.assertEqual(caught.exception.field, field)

    def test_made_from_lists_and_tuples(self):
        for state in WORDS:
            for path in PATHS:
                for given in (path, tuple(path)):
                    with self.subTest(state=state, path=given):
                        address = Address(state, given)
                        self.assertEqual(address.state, state)
                        self.assertEqual(address.path, tuple(path))
                        self.assertIs(type(address.path), tuple)
                        self.assertEqual(len(address), len(path))

    def test_arguments_by_position_and_by_name(self):
        expected = Address("web", ["a"])
        self.assertEqual(Address("web", path=["a"]), expected)
        self.assertEqual(Address(state="web", path=("a",)), expected)
        self.assertEqual(Address(path=["a"], state="web"), expected)
        self.assertEqual(Address(state="web").path, ())
        self.assertEqual(Address("web").path, ())

    def test_a_list_that_is_changed_afterwards(self):
        path = ["a", "b"]
        address = Address("web", path)
        path.append("c")
        path[0] = "z"
        self.assertEqual(address.path, ("a", "b"))
        self.assertEqual(len(address), 2)
        self.assertEqual(address.text(), "web:/a/b")
        self.assertEqual(address, Address("web", ["a", "b"]))

    def test_a_list_that_is_passed_is_not_changed(self):
        path = ["a", "b"]
        Address("web", path) + "c"
        self.assertEqual(path, ["a", "b"])

    def test_state_and_path_cannot_be_set(self):
        address = Address("web", ["a"])
        for name, value in (("state", "www"), ("path", ("b",))):
            with self.assertRaises(AttributeError):
                setattr(address, name, value)
        self.assertEqual((address.state, address.path), ("web", ("a",)))

    def test_the_state_is_refused(self):
        for value in NO_WORDS:
            with self.subTest(value=value):
                self.assert_invalid("state", value)
                self.assert_invalid("state", value, ["a"])
                self.assert_invalid("state", state=value, path=())

    def test_the_path_is_refused(self):
        for value in NO_PATHS:
            with self.subTest(value=value):
                self.assert_invalid("path", "web", value)
                self.assert_invalid("path", path=value, state="web")

    def test_the_state_is_refused_before_the_path(self):
        for state, path in itertools.product(NO_WORDS, NO_PATHS):
            self.assert_invalid("state", state, path)
            self.assert_invalid("state", path=path, state=state)

    def test_one_item_of_a_long_path_is_no_word(self):
        for at in range(6):
            for value in NO_WORDS:
                path = ["a"] * 6
                path[at] = value
                with self.subTest(at=at, value=value):
                    self.assert_invalid("path", "web", path)
                    self.assert_invalid("path", "web", tuple(path))


class InterfaceTest(unittest.TestCase):

    def test_each_name_is_defined_in_the_class_itself(self):
        names = (
            "state", "path", "__init__", "__len__", "__getitem__", "__add__", "__radd__", "__eq__", "__lt__", "__le__",
            "__gt__", "__ge__", "text", "read",
        )
        self.assertEqual([name for name in names if name not in vars(Address)], [])
        self.assertEqual(Address.__module__, "sentonward.addresses")

    def test_arguments_have_the_names_of_the_interface(self):
        self.assertEqual(list(inspect.signature(Address).parameters), ["state", "path"])
        self.assertEqual(list(inspect.signature(Address.read).parameters), ["text"])
        self.assertEqual(list(inspect.signature(Address("a").text).parameters), [])


class IndexTest(unittest.TestCase):

    def assert_out_of_range(self, address, value):
        with self.assertRaises(OutOfRange) as caught:
            address[value]
        self.assertIs(caught.exception.value, value)

    def test_each_index(self):
        for path in PATHS:
            address = Address("web", path)
            self.assertEqual([address[at] for at in range(len(address))], path)

    def test_integers_beside_the_indexes(self):
        for path in PATHS:
            address = Address("web", path)
            for value in (-1, -len(path), -len(path) - 1, len(path), len(path) + 1, 10 ** 99, -(10 ** 99)):
                if not 0 <= value < len(path):
                    with self.subTest(path=path, value=value):
                        self.assert_out_of_range(address, value)

    def test_values_of_other_kinds(self):
        others = [value for value in NO_STRINGS if type(value) is not int]
        for path in ([], ["a"], ["a", "b", "c"]):
            address = Address("web", path)
            for value in others + list(ODD_STRINGS) + list(WORDS) + ["0", "1", "-1"]:
                with self.subTest(path=path, value=value):
                    self.assert_out_of_range(address, value)

    def test_a_refused_index_changes_nothing(self):
        address = Address("web", ["a", "b"])
        self.assert_out_of_range(address, True)
        self.assertEqual(address, Address("web", ["a", "b"]))

    def test_no_iteration(self):
        address = Address("web", ["a", "b"])
        for use in (iter, list, tuple, set, sorted):
            with self.assertRaises(TypeError):
                use(address)
        with self.assertRaises(TypeError):
            "a" in address


class AddingTest(unittest.TestCase):

    def test_words_on_either_side(self):
        for path in PATHS:
            for word in WORDS:
                address = Address("web", path)
                self.assertEqual((address + word).path, (*path, word))
                self.assertEqual((word + address).path, (word, *path))
                self.assertEqual((address + word).state, "web")
                self.assertEqual((word + address).state, "web")
                self.assertEqual(address, Address("web", path))

    def test_words_on_both_sides(self):
        self.assertEqual(("a" + Address("web", ["b"]) + "c").text(), "web:/a/b/c")
        self.assertEqual(("a" + ("b" + Address("web")) + "c" + "d").text(), "web:/a/b/c/d")

    def test_in_place_makes_a_new_address(self):
        first = address = Address("web", ["a"])
        address += "b"
        self.assertEqual(address.path, ("a", "b"))
        self.assertEqual(first.path, ("a",))

    def test_values_that_are_no_words(self):
        for path in ([], ["a", "b"]):
            address = Address("web", path)
            for value in NO_WORDS:
                for add in (lambda: address + value, lambda: value + address):
                    with self.subTest(value=value), self.assertRaises(InvalidAddress) as caught:
                        add()
                    self.assertEqual(caught.exception.field, "path")
            self.assertEqual(address, Address("web", path))


class OrderTest(unittest.TestCase):

    def test_all_six_comparisons(self):
        places = range(len(ASCENDING))
        for at, other in itertools.product(places, places):
            one, two = address_of(ASCENDING[at]), address_of(ASCENDING[other])
            for compare in COMPARISONS:
                with self.subTest(one=one.text(), two=two.text(), compare=compare.__name__):
                    self.assertIs(compare(one, two), compare(at, other))

    def test_the_number_of_segments_comes_first(self):
        self.assertTrue(Address("web") < Address("ab", ["a"]))
        self.assertTrue(Address("z", ["z"]) < Address("a", ["a", "a"]))

    def test_then_the_state(self):
        self.assertTrue(Address("a", ["z", "z"]) < Address("b", ["a", "a"]))

    def test_then_the_path(self):
        self.assertTrue(Address("a", ["a", "z"]) < Address("a", ["b", "a"]))
        self.assertTrue(Address("a", ["ab", "a"]) > Address("a", ["a", "z"]))

    def test_equal_addresses(self):
        for state, path in ASCENDING:
            one, two = Address(state, path), Address(state, list(path))
            self.assertEqual([compare(one, two) for compare in COMPARISONS], [True, False, False, True, False, True])

    def test_equal_only_with_equal_state_and_path(self):
        address = Address("a", ["b"])
        others = (Address("b", ["b"]), Address("a", ["a"]), Address("a"), Address("a", ["b", "b"]))
        self.assertEqual([address == other for other in others], [False] * 4)
        self.assertEqual([address != other for other in others], [True] * 4)

    def test_never_equal_to_other_kinds(self):
        address = Address("a", ["b"])
        others = ("a:/b", ("a", ("b",)), ("a", ["b"]), ["b"], ("b",), (1, "a", ("b",)), {"a": ["b"]})
        for value in others + NO_WORDS:
            if type(value) is not Address:
                with self.subTest(value=value):
                    self.assertIs(address == value, False)
                    self.assertIs(value == address, False)
                    self.assertIs(address != value, True)

    def test_other_kinds_have_no_place_in_the_order(self):
        for compare in (operator.lt, operator.le, operator.gt, operator.ge):
            for value in (None, 1, "a", ("a", ()), ["a"]):
                with self.assertRaises(TypeError):
                    compare(Address("a"), value)

    def test_sorting(self):
        addresses = [address_of(pair) for pair in ASCENDING]
        texts = [address.text() for address in addresses]
        for seed in range(20):
            mixed = copy.copy(addresses)
            random.Random(seed).shuffle(mixed)
            self.assertEqual([address.text() for address in sorted(mixed)], texts)
            self.assertEqual([address.text() for address in sorted(mixed, reverse=True)], texts[::-1])
            self.assertEqual((min(mixed).text(), max(mixed).text()), (texts[0], texts[-1]))


class TextTest(unittest.TestCase):

    def assert_bad(self, text, index):
        with self.assertRaises(InvalidText) as caught:
            Address.read(text)
        self.assertEqual(caught.exception.index, index)
        self.assertIs(type(caught.exception.index), int)

    def test_text(self):
        self.assertEqual(Address("web").text(), "web:")
        self.assertEqual(Address("web", ["a"]).text(), "web:/a")
        self.assertEqual(Address("web", ("a", "b", "abcdefgh")).text(), "web:/a/b/abcdefgh")

    def test_each_text_reads_back(self):
        for state in WORDS:
            for path in PATHS:
                address = Address(state, path)
                again = Address.read(address.text())
                self.assertIs(type(again), Address)
                self.assertEqual(again, address)
                self.assertEqual((again.state, again.path), (state, tuple(path)))
                self.assertEqual(again.text(), address.text())

    def test_read_by_name(self):
        self.assertEqual(Address.read(text="web:/a").path, ("a",))

    def test_bad_texts(self):
        for text, index in BAD_TEXTS:
            with self.subTest(text=text):
                self.assert_bad(text, index)

    def test_each_short_text(self):
        form = re.compile("[a-z]{1,8}:(/[a-z]{1,8})*")
        for many in range(7):
            for signs in itertools.product("a:/1", repeat=many):
                text = "".join(signs)
                if form.fullmatch(text):
                    self.assertEqual(Address.read(text).text(), text)
                else:
                    self.assert_bad(text, self.longest_beginning(form, text))

    def longest_beginning(self, form, text):
        # A text that can become valid at all becomes so by one of these ends.
        ends = ("", "a", ":", "a:")
        return max(
            many for many in range(len(text) + 1) if any(form.fullmatch(text[:many] + end) for end in ends)
        )

    def test_values_that_are_no_strings(self):
        for value in NO_STRINGS:
            with self.subTest(value=value):
                self.assert_bad(value, 0)

    def test_a_long_text(self):
        text = "web:" + "/abcdefgh" * 2000
        self.assertEqual(len(Address.read(text)), 2000)
        self.assert_bad(text + "/", len(text) + 1)
        self.assert_bad(text + "i", len(text))


if __name__ == "__main__":
    unittest.main()

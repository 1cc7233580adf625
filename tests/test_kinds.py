"""What a word, a list of words, an integer and an index are ([2])."""

import string
import unittest

from sentonward.kinds import are_words, is_index, is_integer, is_word
from tests.values import NO_PATHS, NO_WORDS, ODD_STRINGS, WORDS


class KindsTest(unittest.TestCase):

    def test_words(self):
        for value in WORDS + tuple(string.ascii_lowercase):
            with self.subTest(value=value):
                self.assertIs(is_word(value), True)

    def test_no_words(self):
        for value in NO_WORDS:
            with self.subTest(value=value):
                self.assertIs(is_word(value), False)

    def test_each_single_character(self):
        taken = [chr(code) for code in range(0x3000) if is_word(chr(code))]
        self.assertEqual(taken, list(string.ascii_lowercase))
        self.assertFalse(any(is_word("a" + chr(code)) for code in range(0x80, 0x3000)))

    def test_lists_of_words(self):
        for value in ([], (), ["a"], ("a",), list(WORDS), WORDS, ["a", "a"]):
            with self.subTest(value=value):
                self.assertIs(are_words(value), True)

    def test_no_lists_of_words(self):
        for value in NO_PATHS:
            with self.subTest(value=value):
                self.assertIs(are_words(value), False)

    def test_integers(self):
        for value in (0, 1, -1, 10 ** 99, -(10 ** 99)):
            with self.subTest(value=value):
                self.assertIs(is_integer(value), True)

    def test_no_integers(self):
        for value in (None, True, False, "1", "0", b"1", (1,), [1], {1: 1}, ()) + ODD_STRINGS:
            with self.subTest(value=value):
                self.assertIs(is_integer(value), False)

    def test_indexes(self):
        self.assertEqual([at for at in range(-5, 6) if is_index(at, 3)], [0, 1, 2])
        self.assertEqual([at for at in range(-5, 6) if is_index(at, 0)], [])
        for value in (None, True, False, "0", "1", b"1", (0,), [0], {0: 0}, 10 ** 99, -(10 ** 99)):
            with self.subTest(value=value):
                self.assertIs(is_index(value, 3), False)


if __name__ == "__main__":
    unittest.main()

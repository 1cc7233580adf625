"""Values of every kind that [2] calls "any value", for the tests of wrong inputs."""

from sentonward.addresses import Address
from sentonward.errors import OutOfRange


def nested(depth):
    """Return lists and dicts that are nested so many levels deep."""
    value = "a"
    for level in range(depth):
        value = [value] if level % 2 else {"a": value}
    return value


NO_STRINGS = (
    None, True, False, 0, 1, -1, 7, 10 ** 99, -(10 ** 99), b"", b"a", b"web:", (), ("a",), ((),), [], ["a"],
    ["web:"], {}, {"a": "b"}, nested(20), Address("a"), Address("a", ["b"]), OutOfRange("a"),
)

ODD_STRINGS = (
    "", "A", "Z", "Ab", "aB", "AB", "a1", "1", "1a", "abcdefghi", "abcdefgh1", "abcdefghijklmnop", "a b", " a",
    "a ", " ", "a\n", "\na", "\n", "a\t", "a-b", "a_b", "_", "a/", "/a", "/", "a:", ":", "a.", "a\0", "`", "{",
    "\u00e9", "a\u00e9", "\u00df", "\u00aa", "\u0430", "\uff41", "\U0001d41a",
)

NO_WORDS = NO_STRINGS + ODD_STRINGS

WORDS = ("a", "z", "m", "ab", "az", "web", "abcdefg", "abcdefgh", "zzzzzzzz", "true", "none")

NO_PATHS = tuple(
    value for value in NO_STRINGS if value not in ((), ("a",), [], ["a"])
) + ODD_STRINGS + WORDS + (
    [""], ["A"], ("",), ["a", ""], ["a", None], [None], [True], [1], [b"a"], [["a"]], (("a",),), [{}], ["a", "b1"],
    ["abcdefghi"], ["a", "b", "c", "abcdefghi"], ["a b"], ["a\n"], [Address("a")], ("a", 0), ["x", "y", ("z",)],
)

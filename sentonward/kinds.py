"""Which values are words, lists of words, integers and indexes."""

LETTERS = 8


def is_word(value):
    """Return whether value is a string of 1 to 8 letters from a to z."""
    if not isinstance(value, str):
        return False
    # islower and isalpha alone would also take letters beyond a to z.
    return 1 <= len(value) <= LETTERS and value.isascii() and value.isalpha() and value.islower()


def are_words(value):
    """Return whether value is a list or a tuple that holds nothing but words."""
    return isinstance(value, (list, tuple)) and all([is_word(item) for item in value])


def is_integer(value):
    """Return whether value is an integer; True and False are none."""
    return isinstance(value, int) and not isinstance(value, bool)


def is_index(value, many):
    """Return whether value is an integer from 0 to many - 1."""
    return is_integer(value) and 0 <= value < many


def number_in(text, digits):
    """Return the integer that a text of at most so many decimal digits tells, or None if it tells none."""
    # isdigit alone would also take digits beyond 0 to 9.
    if not text.isascii() or not text.isdigit() or len(text) > digits or text[0] == "0" and len(text) > 1:
        return None
    return int(text)


def is_same(value, right):
    """Return whether value equals right, where every part of it is exactly of the same kind.

    right is a string, an integer, or a tuple of such; 1 and True are of different kinds.
    """
    if isinstance(right, str):
        return isinstance(value, str) and value == right
    if is_integer(right):
        return is_integer(value) and value == right
    if not isinstance(value, tuple) or len(value) != len(right):
        return False
    return all([is_same(one, other) for one, other in zip(value, right)])

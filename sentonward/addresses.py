"""Addresses: a state and a path of segments, in their order and as texts."""

from sentonward.errors import InvalidAddress, InvalidText, OutOfRange
from sentonward.kinds import LETTERS, are_words, is_index, is_word


def word_end(text, start):
    """Return the index behind the longest beginning of a word that stands in text at start."""
    end = start
    while end < len(text) and end - start < LETTERS and "a" <= text[end] <= "z":
        end += 1
    return end


class Address:
    """A state and the tuple of the segments of its path; it never changes."""

    def __init__(self, state, path=()):
        if not is_word(state):
            raise InvalidAddress("state")
        if not are_words(path):
            raise InvalidAddress("path")
        self._state = state
        self._path = tuple(path)
        # Tuples compare item by item, so this one gives the order of addresses.
        self._key = (len(self._path), self._state, self._path)

    @property
    def state(self):
        """The state, a word."""
        return self._state

    @property
    def path(self):
        """The tuple of the segments."""
        return self._path

    def __len__(self):
        return len(self._path)

    def __getitem__(self, at):
        if not is_index(at, len(self._path)):
            raise OutOfRange(at)
        return self._path[at]

    # Without it, Python would iterate over the items by their indexes.
    def __iter__(self):
        raise TypeError("an address is not iterated over")

    # The new address itself refuses a segment that is no word.
    def __add__(self, other):
        return Address(self._state, (*self._path, other))

    def __radd__(self, other):
        return Address(self._state, (other, *self._path))

    def __eq__(self, other):
        if not isinstance(other, Address):
            return NotImplemented
        return self._key == other._key

    def __lt__(self, other):
        if not isinstance(other, Address):
            return NotImplemented
        return self._key < other._key

    def __le__(self, other):
        if not isinstance(other, Address):
            return NotImplemented
        return self._key <= other._key

    def __gt__(self, other):
        if not isinstance(other, Address):
            return NotImplemented
        return self._key > other._key

    def __ge__(self, other):
        if not isinstance(other, Address):
            return NotImplemented
        return self._key >= other._key

    def text(self):
        """Return the state, a colon, and a slash and the segment for each segment."""
        return self._state + ":" + "".join(["/" + word for word in self._path])

    @classmethod
    def read(cls, text):
        """Return the address with this text."""
        if not isinstance(text, str):
            raise InvalidText(0)
        end = word_end(text, 0)
        if end == 0 or text[end:end + 1] != ":":
            raise InvalidText(end)
        state = text[:end]
        path = []
        end += 1
        while end < len(text):
            if text[end] != "/":
                raise InvalidText(end)
            start = end + 1
            end = word_end(text, start)
            if end == start:
                raise InvalidText(end)
            path.append(text[start:end])
        return cls(state, path)

"""Rules: what they match, where they send an address, and their texts."""

from sentonward.addresses import Address
from sentonward.errors import InvalidRule, InvalidText
from sentonward.kinds import is_integer, is_word
from sentonward.limits import BEGINNING, PATTERN

HOLES = {"1": 1, "2": 2}


def is_hole(value):
    """Return whether value is one of the integers that stand for any segment."""
    return is_integer(value) and 1 <= value <= len(HOLES)


def are_entries(value, most):
    """Return whether value is a list of at most so many words and holes."""
    if not isinstance(value, (list, tuple)) or len(value) > most:
        return False
    return all([is_word(entry) or is_hole(entry) for entry in value])


def is_goal(value, pattern):
    """Return whether value is a goal of a rule with this pattern."""
    if value is None:
        return True
    if not isinstance(value, tuple) or len(value) != 2:
        return False
    state, beginning = value
    if not is_word(state) or not are_entries(beginning, BEGINNING):
        return False
    return all([is_word(entry) or entry in pattern for entry in beginning])


def words_among(entries):
    """Return the ascending tuple of the words among entries."""
    return tuple(sorted(set([entry for entry in entries if is_word(entry)])))


def matched(rule, signs, is_end):
    """Return a dict of what the holes of a rule match, or None if its pattern does not match.

    signs are the first segments of the path, or integers that represent such; is_end says whether
    the path has no others.
    """
    pattern = rule.pattern
    if len(signs) < len(pattern):
        return None
    if rule.is_exact and not (is_end and len(signs) == len(pattern)):
        return None
    holes = {}
    for entry, sign in zip(pattern, signs):
        wanted = holes.setdefault(entry, sign) if is_integer(entry) else entry
        if wanted != sign:
            return None
    return holes


def sent(rule, signs, holes):
    """Return the signs of the path to which a rule with a goal sends a path that it matches."""
    beginning = [holes[entry] if is_integer(entry) else entry for entry in rule.goal[1]]
    return tuple(beginning) + signs[len(rule.pattern):]


def path_text(entries, is_exact):
    """Return the text of a pattern or a beginning."""
    text = "".join([f"/{entry}" for entry in entries])
    if not is_exact:
        return text + "/.."
    return text if text != "" else "/"


def parsed_path(text):
    """Return the tuple of entries with this text, and whether it is exact; None if it is no such text."""
    if text == "/":
        return (), True
    if not text.startswith("/"):
        return None
    parts = text[1:].split("/")
    is_exact = parts[-1] != ".."
    if not is_exact:
        parts = parts[:-1]
    if not all([is_word(part) or part in HOLES for part in parts]):
        return None
    return tuple([HOLES.get(part, part) for part in parts]), is_exact


def parsed(text):
    """Return (state, pattern, goal, is_exact) of a text that has the form of a rule, None of any other value."""
    if not isinstance(text, str):
        return None
    parts = text.split(" ")
    is_short = len(parts) == 3 and parts[2] == "stays"
    if not is_short and not (len(parts) == 5 and parts[2] == "to" and is_word(parts[3])):
        return None
    side = parsed_path(parts[1])
    if side is None or not is_word(parts[0]):
        return None
    pattern, is_exact = side
    if is_short:
        return parts[0], pattern, None, is_exact
    side = parsed_path(parts[4])
    if side is None or side[1] != is_exact:
        return None
    return parts[0], pattern, (parts[3], side[0]), is_exact


class Rule:
    """A state and a pattern, and where the addresses go that it fits; it never changes."""

    def __init__(self, state, pattern, goal=None, *, is_exact=False):
        if not is_word(state):
            raise InvalidRule("state")
        if not are_entries(pattern, PATTERN):
            raise InvalidRule("pattern")
        if not is_goal(goal, pattern):
            raise InvalidRule("goal")
        if not isinstance(is_exact, bool):
            raise InvalidRule("is_exact")
        self._state = state
        self._pattern = tuple(pattern)
        self._goal = None if goal is None else (goal[0], tuple(goal[1]))
        self._is_exact = is_exact
        self._words = words_among(self._pattern if goal is None else self._pattern + self._goal[1])
        self._key = (self._state, self._pattern, self._goal, self._is_exact)

    @property
    def state(self):
        """The state of the addresses that the rule may fit, a word."""
        return self._state

    @property
    def pattern(self):
        """The tuple of the entries that match the first segments."""
        return self._pattern

    @property
    def goal(self):
        """None, or the tuple of a state and a beginning."""
        return self._goal

    @property
    def is_exact(self):
        """Whether the path must have no further segments."""
        return self._is_exact

    @property
    def words(self):
        """The ascending tuple of the named words."""
        return self._words

    def fits(self, address):
        """Return whether the rule fits an address."""
        return address.state == self._state and matched(self, address.path, True) is not None

    def __call__(self, address):
        """Return None, the address itself, or the address to which the rule sends it."""
        if not self.fits(address):
            return None
        if self._goal is None:
            return address
        holes = matched(self, address.path, True)
        return Address(self._goal[0], sent(self, address.path, holes))

    def __eq__(self, other):
        if not isinstance(other, Rule):
            return NotImplemented
        return self._key == other._key

    def text(self):
        """Return the text of the rule."""
        text = f"{self._state} {path_text(self._pattern, self._is_exact)}"
        if self._goal is None:
            return f"{text} stays"
        return f"{text} to {self._goal[0]} {path_text(self._goal[1], self._is_exact)}"

    @classmethod
    def read(cls, text):
        """Return the rule with this text."""
        told = parsed(text)
        if told is None:
            raise InvalidText(0)
        state, pattern, goal, is_exact = told
        return cls(state, pattern, goal, is_exact=is_exact)

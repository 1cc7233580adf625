"""Rules: what they match, where they send an address, and their texts."""

from sentonward.addresses import Address
from sentonward.errors import InvalidRule, InvalidText
from sentonward.kinds import is_integer, is_word, number_in
from sentonward.limits import BEGINNING, PATTERN

HOLES = {"1": 1, "2": 2}
# Of the holes that are not limited to these.
HOLE_DIGITS = 100


def is_hole(value, is_free):
    """Return whether value is an integer that stands for any segment; is_free lifts the limit."""
    return is_integer(value) and 1 <= value and (is_free or value <= len(HOLES))


def are_entries(value, most, is_free):
    """Return whether value is a list of words and holes, at most so many unless is_free."""
    if not isinstance(value, (list, tuple)) or not is_free and len(value) > most:
        return False
    return all([is_word(entry) or is_hole(entry, is_free) for entry in value])


def is_goal(value, pattern, is_free):
    """Return whether value is a goal of a rule with this pattern."""
    if value is None:
        return True
    if not isinstance(value, tuple) or len(value) != 2:
        return False
    state, beginning = value
    if not is_word(state) or not are_entries(beginning, BEGINNING, is_free):
        return False
    entries = {entry: True for entry in pattern}
    return all([is_word(entry) or entry in entries for entry in beginning])


def check_parts(state, pattern, goal, is_exact, is_free):
    """Raise an error for the first part that a rule does not take; is_free lifts its limits."""
    if not is_word(state):
        raise InvalidRule("state")
    if not are_entries(pattern, PATTERN, is_free):
        raise InvalidRule("pattern")
    if not is_goal(goal, pattern, is_free):
        raise InvalidRule("goal")
    if not isinstance(is_exact, bool):
        raise InvalidRule("is_exact")


def copied_goal(goal):
    """Return a goal with its beginning as a tuple."""
    return None if goal is None else (goal[0], tuple(goal[1]))


def words_named(pattern, goal):
    """Return the ascending tuple of the words in a pattern and a goal."""
    entries = pattern if goal is None else pattern + goal[1]
    return tuple(sorted(set([entry for entry in entries if is_word(entry)])))


def matched(pattern, is_exact, signs, is_end):
    """Return a dict of what the holes of a pattern match, or None if it does not match.

    signs are the first segments of the path, or integers that represent such; is_end says whether
    the path has no others.
    """
    if len(signs) < len(pattern):
        return None
    if is_exact and not (is_end and len(signs) == len(pattern)):
        return None
    holes = {}
    for entry, sign in zip(pattern, signs):
        wanted = entry if isinstance(entry, str) else holes.setdefault(entry, sign)
        if wanted != sign:
            return None
    return holes


def sent(pattern, beginning, signs, holes):
    """Return the signs of the path to which a rule with a goal sends a path that it matches."""
    filled = [entry if isinstance(entry, str) else holes[entry] for entry in beginning]
    return tuple(filled) + signs[len(pattern):]


def fits_address(rule, address):
    """Return whether a rule fits an address."""
    return address.state == rule.state and matched(rule.pattern, rule.is_exact, address.path, True) is not None


def sent_address(rule, address):
    """Return None, the address itself, or the address to which a rule sends it."""
    if address.state != rule.state:
        return None
    holes = matched(rule.pattern, rule.is_exact, address.path, True)
    if holes is None or rule.goal is None:
        return None if holes is None else address
    return Address(rule.goal[0], sent(rule.pattern, rule.goal[1], address.path, holes))


def path_text(entries, is_exact):
    """Return the text of a pattern or a beginning."""
    text = "".join([f"/{entry}" for entry in entries])
    if not is_exact:
        return text + "/.."
    return text if text != "" else "/"


def rule_text(rule):
    """Return the text of a rule."""
    text = f"{rule.state} {path_text(rule.pattern, rule.is_exact)}"
    if rule.goal is None:
        return f"{text} stays"
    return f"{text} to {rule.goal[0]} {path_text(rule.goal[1], rule.is_exact)}"


def hole_in(part, is_free):
    """Return the hole with this text, or None if it is no such text."""
    if not is_free:
        return HOLES.get(part, None)
    hole = number_in(part, HOLE_DIGITS)
    return None if hole == 0 else hole


def parsed_path(text, is_free):
    """Return the tuple of entries with this text, and whether it is exact; None if it is no such text."""
    if text == "/":
        return (), True
    if not text.startswith("/"):
        return None
    parts = text[1:].split("/")
    is_exact = parts[-1] != ".."
    if not is_exact:
        parts = parts[:-1]
    entries = tuple([part if is_word(part) else hole_in(part, is_free) for part in parts])
    return None if None in entries else (entries, is_exact)


def parsed(text, is_free):
    """Return (state, pattern, goal, is_exact) of a text that has the form of a rule, None of any other value."""
    if not isinstance(text, str):
        return None
    parts = text.split(" ")
    is_short = len(parts) == 3 and parts[2] == "stays"
    if not is_short and not (len(parts) == 5 and parts[2] == "to" and is_word(parts[3])):
        return None
    side = parsed_path(parts[1], is_free)
    if side is None or not is_word(parts[0]):
        return None
    pattern, is_exact = side
    if is_short:
        return parts[0], pattern, None, is_exact
    side = parsed_path(parts[4], is_free)
    if side is None or side[1] != is_exact:
        return None
    return parts[0], pattern, (parts[3], side[0]), is_exact


class Rule:
    """A state and a pattern, and where the addresses go that it fits; it never changes."""

    def __init__(self, state, pattern, goal=None, *, is_exact=False):
        check_parts(state, pattern, goal, is_exact, False)
        self._state = state
        self._pattern = tuple(pattern)
        self._goal = copied_goal(goal)
        self._is_exact = is_exact
        self._words = words_named(self._pattern, self._goal)
        self._key = (self._state, self._pattern, self._goal, self._is_exact)

    @property
    def state(self):
        """The state of the addresses that the rule may fit, a word."""
        return self._state

    @property
    def pattern(self):
        """The tuple of the entries that match the first segments."""
        return self._pattern

    @property
    def goal(self):
        """None, or the tuple of a state and a beginning."""
        return self._goal

    @property
    def is_exact(self):
        """Whether the path must have no further segments."""
        return self._is_exact

    @property
    def words(self):
        """The ascending tuple of the named words."""
        return self._words

    def fits(self, address):
        """Return whether the rule fits an address."""
        return fits_address(self, address)

    def __call__(self, address):
        """Return None, the address itself, or the address to which the rule sends it."""
        return sent_address(self, address)

    def __eq__(self, other):
        if not isinstance(other, Rule):
            return NotImplemented
        return self._key == other._key

    def text(self):
        """Return the text of the rule."""
        return rule_text(self)

    @classmethod
    def read(cls, text):
        """Return the rule with this text."""
        told = parsed(text, False)
        if told is None:
            raise InvalidText(0)
        state, pattern, goal, is_exact = told
        return cls(state, pattern, goal, is_exact=is_exact)

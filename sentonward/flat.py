"""Lists of flat rules, which tell the end of each address in one step: [40]."""

from sentonward.deciding import readings
from sentonward.ends import never_settles
from sentonward.errors import Barred, InvalidText, Unsettled
from sentonward.kinds import is_integer
from sentonward.longest import longest
from sentonward.rules import check_parts, copied_goal, fits_address, matched, parsed, rule_text, sent
from sentonward.rules import sent_address, words_named


class FlatRule:
    """A rule whose pattern and beginning may have any number of entries and holes; it never changes."""

    def __init__(self, state, pattern, goal=None, *, is_exact=False):
        check_parts(state, pattern, goal, is_exact, True)
        self._state = state
        self._pattern = tuple(pattern)
        self._goal = copied_goal(goal)
        self._is_exact = is_exact
        self._words = words_named(self._pattern, self._goal)
        self._key = (self._state, self._pattern, self._goal, self._is_exact)

    @property
    def state(self):
        """The state of the addresses that the rule may fit, a word."""
        return self._state

    @property
    def pattern(self):
        """The tuple of the entries that match the first segments."""
        return self._pattern

    @property
    def goal(self):
        """None, or the tuple of a state and a beginning."""
        return self._goal

    @property
    def is_exact(self):
        """Whether the path must have no further segments."""
        return self._is_exact

    @property
    def words(self):
        """The ascending tuple of the named words."""
        return self._words

    def fits(self, address):
        """Return whether the rule fits an address."""
        return fits_address(self, address)

    def __call__(self, address):
        """Return None, the address itself, or the address to which the rule sends it."""
        return sent_address(self, address)

    def __eq__(self, other):
        if not isinstance(other, FlatRule):
            return NotImplemented
        return self._key == other._key

    def text(self):
        """Return the text of the rule."""
        return rule_text(self)

    @classmethod
    def read(cls, text):
        """Return the rule with this text."""
        told = parsed(text, True)
        if told is None:
            raise InvalidText(0)
        state, pattern, goal, is_exact = told
        return cls(state, pattern, goal, is_exact=is_exact)


def flat_end(rules, address):
    """Return the address to which the first rule of a list that fits sends an address, or the address itself."""
    for rule in rules:
        if rule.fits(address):
            return rule(address)
    return address


def plan_of(system):
    """Return a list of flat rules that send the addresses of the readings of a system to their ends.

    Each comes with the pairs of its holes that stand for different segments. All addresses settle, and
    there is a longest run.
    """
    told = []
    for state, signs, is_end, goal, apart in readings(system):
        other = None if goal == (state, signs) else goal
        told.append((FlatRule(state, signs, other, is_exact=is_end), apart))
    return told


def root_of(links, token):
    """Return the token at which a dict of links ends."""
    while token in links:
        token = links[token]
    return token


def other_token(entry):
    """Return the token of an entry of the second one of two patterns: holes are negative."""
    return -entry if is_integer(entry) else entry


def united(pattern, other):
    """Return links between the words and holes of two patterns that match the same path, or None if none does."""
    links = {}
    for entry, second in zip(pattern, other):
        one = root_of(links, entry)
        two = root_of(links, other_token(second))
        if one == two:
            continue
        if is_integer(one):
            links[one] = two
        elif is_integer(two):
            links[two] = one
        else:
            return None
    return links


def shared_path(one, other, apart, named):
    """Return the path of the addresses of a reading that a rule matches, or None if there are none.

    one is the rule of the reading. The path is as different as both patterns allow, and as long as the
    longer one; integers stand for segments that no rule names.
    """
    links = united(one.pattern, other.pattern)
    if links is None or any([root_of(links, hole) == root_of(links, second) for hole, second in apart]):
        return None
    if any([is_integer(entry) and root_of(links, entry) in named for entry in one.pattern]):
        return None
    tokens = [*one.pattern, *[other_token(entry) for entry in other.pattern[len(one.pattern):]]]
    return tuple([root_of(links, token) for token in tokens])


def is_long_enough(rule, many):
    """Return whether a rule may fit paths with so many segments."""
    return many == len(rule.pattern) if rule.is_exact else many >= len(rule.pattern)


def result(rule, path):
    """Return the state and the path to which a rule sends a path that it matches."""
    if rule.goal is None:
        return rule.state, path
    return rule.goal[0], sent(rule, path, matched(rule, path, True))


def strays(earlier, other, reading, named, most):
    """Return whether a rule behind earlier ones sends some address of a reading elsewhere than to its end.

    It is enough to look at paths with at most so many segments.
    """
    one, apart = reading
    sizes = [many for many in range(most + 1) if is_long_enough(one, many) and is_long_enough(other, many)]
    path = shared_path(one, other, apart, named)
    if not sizes or path is None or result(one, path) == result(other, path):
        return False
    for many in sizes:
        # What stands behind is different from all the rest; the holes of one are numbered.
        last = len(one.pattern) + many - len(path)
        whole = path + tuple(range(len(one.pattern) + 1, last + 1))
        if not any([matched(rule, whole, True) is not None for rule in earlier]):
            return True
    return False


def is_right(rules, reading, named):
    """Return whether the first rule of a list that fits sends each address of a reading to its end."""
    one = reading[0]
    # Where no rule fits, the address itself is told, as if a last rule let it stay.
    mine = [*[rule for rule in rules if rule.state == one.state], FlatRule(one.state, ())]
    most = len(one.pattern)
    for rule in mine:
        if len(rule.pattern) > most:
            most = len(rule.pattern)
    for index, rule in enumerate(mine):
        if strays(mine[:index], rule, reading, named, most + 1):
            return False
        if matched(rule, one.pattern, one.is_exact) is not None:
            break
    return True


def flat(system):
    """Return a list of flat rules that replaces a system, and from which none can be removed."""
    address = never_settles(system)
    if address is not None:
        raise Unsettled(address)
    told = longest(system)
    if told[0] == "more":
        raise Barred(told)
    named = system.words
    kept = []
    # From the last one on: the rules ahead of a reading fit none of its addresses, so those that are
    # kept behind it tell whether it needs a rule of its own.
    for reading in plan_of(system)[::-1]:
        if not is_right(kept, reading, named):
            kept.insert(0, reading[0])
    return kept


def is_flat(system, value):
    """Return whether any value is a list of flat rules that replaces a system."""
    if never_settles(system) is not None or longest(system)[0] == "more":
        return False
    plan = plan_of(system)
    if not isinstance(value, list) or not all([isinstance(rule, FlatRule) for rule in value]):
        return False
    # All addresses of the other states settle at once.
    known = {one.state: True for one, _ in plan}
    others = sorted(set([rule.state for rule in value if rule.state not in known]))
    whole = plan + [(FlatRule(state, ()), ()) for state in others]
    return all([is_right(value, reading, system.words) for reading in whole])

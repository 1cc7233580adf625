"""Lists of flat rules, which tell the end of each address in one step: [40]."""

from sentonward.deciding import readings
from sentonward.errors import Barred, InvalidText, Unsettled
from sentonward.kinds import is_integer
from sentonward.longest import more_of
from sentonward.rules import check_parts, copied_goal, fits_address, matched, parsed, rule_text, sent
from sentonward.rules import sent_address, words_named
from sentonward.stands import Graph, first_lost, ordered, settling

# The shape of a rule that lets all addresses stay.
STAY = ((), False, None)


class FlatRule:
    """A rule whose pattern and beginning may have any number of entries and holes; it never changes."""

    def __init__(self, state, pattern, goal=None, *, is_exact=False):
        check_parts(state, pattern, goal, is_exact, True)
        self._state = state
        self._pattern = tuple(pattern)
        self._goal = copied_goal(goal)
        self._is_exact = is_exact
        self._words = words_named(self._pattern, self._goal)
        self._key = (self._state, self._pattern, self._goal, self._is_exact)

    @property
    def state(self):
        """The state of the addresses that the rule may fit, a word."""
        return self._state

    @property
    def pattern(self):
        """The tuple of the entries that match the first segments."""
        return self._pattern

    @property
    def goal(self):
        """None, or the tuple of a state and a beginning."""
        return self._goal

    @property
    def is_exact(self):
        """Whether the path must have no further segments."""
        return self._is_exact

    @property
    def words(self):
        """The ascending tuple of the named words."""
        return self._words

    def fits(self, address):
        """Return whether the rule fits an address."""
        return fits_address(self, address)

    def __call__(self, address):
        """Return None, the address itself, or the address to which the rule sends it."""
        return sent_address(self, address)

    def __eq__(self, other):
        if not isinstance(other, FlatRule):
            return NotImplemented
        return self._key == other._key

    def text(self):
        """Return the text of the rule."""
        return rule_text(self)

    @classmethod
    def read(cls, text):
        """Return the rule with this text."""
        told = parsed(text, True)
        if told is None:
            raise InvalidText(0)
        state, pattern, goal, is_exact = told
        return cls(state, pattern, goal, is_exact=is_exact)


def flat_end(rules, address):
    """Return the address to which the first rule of a list that fits sends an address, or the address itself."""
    for rule in rules:
        if rule.fits(address):
            return rule(address)
    return address


def root_of(links, token):
    """Return the token at which a dict of links ends."""
    while token in links:
        token = links[token]
    return token


def other_token(entry):
    """Return the token of an entry of the second one of two patterns: holes are negative."""
    return -entry if is_integer(entry) else entry


def united(pattern, other):
    """Return links between the words and holes of two patterns that match the same path, or None if none does."""
    links = {}
    for entry, second in zip(pattern, other):
        one = root_of(links, entry)
        two = root_of(links, other_token(second))
        if one == two:
            continue
        if is_integer(one):
            links[one] = two
        elif is_integer(two):
            links[two] = one
        else:
            return None
    return links


def shared_path(reading, pattern, named):
    """Return the path of the addresses of a reading that a pattern matches, or None if there are none.

    The path is as different as both allow, and as long as the longer one; integers stand for segments
    that no rule names.
    """
    _, signs, _, _, apart = reading
    links = united(signs, pattern)
    if links is None or any([root_of(links, sign) == root_of(links, other) for sign, other in apart]):
        return None
    if any([is_integer(sign) and root_of(links, sign) in named for sign in signs]):
        return None
    tokens = [*signs, *[other_token(entry) for entry in pattern[len(signs):]]]
    return tuple([root_of(links, token) for token in tokens])


def is_long_enough(pattern, is_exact, many):
    """Return whether a pattern may match paths with so many segments."""
    return many == len(pattern) if is_exact else many >= len(pattern)


def result(state, shape, path):
    """Return the state and the path to which a rule of a state, given by its shape, sends a path that it matches."""
    pattern, is_exact, goal = shape
    if goal is None:
        return state, path
    return goal[0], sent(pattern, goal[1], path, matched(pattern, is_exact, path, True))


def is_missed(earlier, path):
    """Return whether no rule matches a whole path."""
    return all([matched(pattern, is_exact, path, True) is None for pattern, is_exact, _ in earlier])


def strays(shapes, index, reading, named):
    """Return whether the first rule that fits some address of a reading is the one with this index, and wrong there.

    It is enough to look at paths with up to one segment more than the longest pattern has.
    """
    state, signs, is_end, goal, _ = reading
    pattern, is_exact, _ = shapes[index]
    if is_end and len(pattern) > len(signs) or is_exact and len(signs) > len(pattern):
        return False
    path = shared_path(reading, pattern, named)
    if path is None or result(state, (signs, is_end, goal), path) == result(state, shapes[index], path):
        return False
    most = 1 + sorted(set([len(signs), *[len(shape[0]) for shape in shapes]]))[-1]
    for many in range(len(path), most + 1):
        if is_long_enough(signs, is_end, many) and is_long_enough(pattern, is_exact, many):
            # What stands behind is different from all the rest; the integers of the reading are numbered.
            new = len(signs) + 1
            if is_missed(shapes[:index], path + tuple(range(new, new + many - len(path)))):
                return True
    return False


def is_right(shapes, reading, named):
    """Return whether the first rule that fits sends each address of a reading to its end.

    The rules are those of the state of the reading; their shapes are tuples (pattern, is_exact, goal).
    """
    state, signs, is_end, goal, _ = reading
    # Where no rule fits, the address itself is told, as if a last rule let it stay.
    every = [*shapes, STAY]
    for index, shape in enumerate(every):
        if matched(shape[0], shape[1], signs, is_end) is not None:
            return result(state, shape, signs) == goal or not strays(every, index, reading, named)
        if strays(every, index, reading, named):
            return False
    return True


def flat(system):
    """Return a list of flat rules that replaces a system, and from which none can be removed."""
    graph = Graph(system)
    address = first_lost(graph)
    if address is not None:
        raise Unsettled(address)
    graph.complete()
    ways = settling(graph)
    order = ordered(graph, ways)
    if len(order) < len(ways):
        raise Barred(more_of(system, graph, ways, order))
    kept = []
    shapes = {}
    # From the last one on: the rules ahead of a reading fit none of its addresses, so those that are
    # kept behind it tell whether it needs a rule of its own.
    for reading in readings(graph)[::-1]:
        state, signs, is_end, goal, _ = reading
        mine = shapes.setdefault(state, [])
        if not is_right(mine, reading, graph.joint.named):
            mine.insert(0, (signs, is_end, goal))
            kept.insert(0, FlatRule(state, signs, None if goal == (state, signs) else goal, is_exact=is_end))
    return kept


def is_flat(system, value):
    """Return whether any value is a list of flat rules that replaces a system."""
    graph = Graph(system)
    if first_lost(graph) is not None:
        return False
    graph.complete()
    ways = settling(graph)
    if len(ordered(graph, ways)) < len(ways):
        return False
    plan = readings(graph)
    if not isinstance(value, list) or not all([isinstance(rule, FlatRule) for rule in value]):
        return False
    shapes = {}
    for rule in value:
        shapes.setdefault(rule.state, []).append((rule.pattern, rule.is_exact, rule.goal))
    # All addresses of the other states settle at once.
    known = {reading[0]: True for reading in plan}
    whole = plan + [(state, (), False, (state, ()), ()) for state in shapes if state not in known]
    return all([is_right(shapes.get(reading[0], []), reading, graph.joint.named) for reading in whole])

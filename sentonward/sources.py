"""Which addresses end at a given address, and how many: [10], [14], [15]."""

from sentonward.addresses import Address
from sentonward.errors import InvalidWords, OutOfRange
from sentonward.kinds import are_words, is_index, is_integer
from sentonward.stands import ordered, settling
from sentonward.views import Joint, Search, fed, opening, team_of

MOST_WORDS = 8
MOST_SEGMENTS = 200


def check_words(value):
    """Raise an error for any value that is not a list of 1 to 8 different words."""
    if not are_words(value) or not 1 <= len(value) <= MOST_WORDS or len(set(value)) < len(value):
        raise InvalidWords(value)


class Net:
    """The views that are on and that a state leads to by some words, as a graph, and how they end at a goal.

    A move is a tuple (word, left, target); moves behind which no address ends at the goal may be left
    out. If target is None, then the address has settled, and ends at the goal exactly if the last
    segments of the goal, as many as left says, are all that stands behind. stops has 0 where the end
    of the path leads to the goal, and None elsewhere.
    """

    def __init__(self, system, goal, state, words):
        self._team = team_of(system)
        self._goal = goal
        self._words = sorted(set(list(words)))
        self._most_left = 0
        for segment in goal.path[::-1]:
            if segment not in self._words:
                break
            self._most_left += 1
        self._views = []
        self._places = {}
        self.moves = []
        self.stops = []
        self.start = self.lead(fed(self._team, opening(state), (), False)[0])
        while len(self.moves) < len(self._views):
            self.enter(self._views[len(self.moves)])

    def lead(self, view):
        """Return (left, target) of the moves to a view, or None if no address behind it ends at the goal."""
        kind, _, state, signs = view
        if kind == "on":
            if view not in self._places:
                self._places[view] = len(self._views)
                self._views.append(view)
            return 0, self._places[view]
        path = self._goal.path
        left = len(path) - len(signs)
        if kind == "never" or state != self._goal.state or signs != path[:len(signs)] or left > self._most_left:
            return None
        return left, None

    def enter(self, view):
        """Note the end and the moves of the next view."""
        end = fed(self._team, view, (), True)[0]
        self.stops.append(0 if end == ("settled", 0, self._goal.state, self._goal.path) else None)
        moves = []
        for word in self._words:
            told = self.lead(fed(self._team, view, (word,), False)[0])
            if told is not None:
                moves.append((word, *told))
        self.moves.append(moves)

    def rest(self, left):
        """Return the last segments of the goal, so many."""
        return self._goal.path[len(self._goal.path) - left:]


def count_behind(rows, many, left, target):
    """Return how many paths with so many segments lead from what a move leads to, to the goal.

    rows has a list for each number of segments, with the number of such paths for each view.
    """
    if target is None:
        return 1 if left == many else 0
    return rows[many][target]


def lengthen(net, rows):
    """Append the row of the next number of segments to a list of rows."""
    if not rows:
        rows.append([0 if stop is None else 1 for stop in net.stops])
        return
    many = len(rows) - 1
    rows.append([sum([count_behind(rows, many, left, target) for _, left, target in moves]) for moves in net.moves])


def paths_of(net, rows, many):
    """Yield the paths with so many segments that lead to the goal, in ascending order."""
    waiting = []
    if net.start is not None and count_behind(rows, many, *net.start) > 0:
        waiting.append(((), *net.start))
    while waiting:
        path, left, at = waiting.pop()
        if at is None:
            yield path + net.rest(left)
        elif len(path) == many:
            yield path
        else:
            # The last one that is put in is taken out first, so the greatest word is put in first.
            for word, more, target in net.moves[at][::-1]:
                if count_behind(rows, many - len(path) - 1, more, target) > 0:
                    waiting.append(((*path, word), more, target))


def most_segments(net):
    """Return the most segments of a path that leads to the goal, or None if there is no maximum."""
    ways = settling(net)
    order = ordered(net, ways)
    if len(order) < len(ways):
        return None
    most = {at: 0 for at in order}
    for at in order:
        for _, left, target in net.moves[at]:
            many = 1 + (left if target is None else most.get(target, -1))
            if many > most[at]:
                most[at] = many
    if net.start is None:
        return 0
    left, at = net.start
    return left if at is None else most.get(at, 0)


def sources(system, goal, state, words):
    """Yield all addresses with a state and segments from words that settle at goal, in ascending order."""
    check_words(words)
    net = Net(system, goal, state, words)
    most = most_segments(net)
    rows = []
    many = 0
    while most is None or many <= most:
        lengthen(net, rows)
        for path in paths_of(net, rows, many):
            yield Address(state, path)
        many += 1


def source_count(system, goal, state, words, many):
    """Return how many addresses of sources have exactly so many segments."""
    check_words(words)
    if not is_index(many, MOST_SEGMENTS + 1):
        raise OutOfRange(many)
    net = Net(system, goal, state, words)
    rows = []
    while len(rows) <= many:
        lengthen(net, rows)
    return 0 if net.start is None else count_behind(rows, many, *net.start)


def are_endless(system, goal, state, words):
    """Return whether there are infinitely many addresses of sources."""
    check_words(words)
    return most_segments(Net(system, goal, state, words)) is None


def is_filled(signs, words, named):
    """Return whether signs can stand for words: integers stand for different ones that are not named."""
    told = {}
    back = {}
    for sign, word in zip(signs, words):
        if not is_integer(sign):
            if sign != word:
                return False
        elif word in named or told.setdefault(sign, word) != word or back.setdefault(word, sign) != sign:
            return False
    return True


def left_behind(joint, views, goal):
    """Return how many last segments of goal must stand behind numbered views for an end at goal, or None."""
    kind, _, state, signs = joint.halted(views)[0][0]
    left = len(goal.path) - len(signs)
    if kind == "never" or state != goal.state or left < 0 or not is_filled(signs, goal.path, joint.named):
        return None
    # What has not settled settles so only if the path ends here.
    return None if views[0][0] == "on" and left > 0 else left


def renamed(joint, goal, state, signs, left):
    """Return the address of signs that are read from a state, and of the last segments of goal behind them."""
    taken = {word: True for word in goal.path}
    path, views = joint.spelled(joint.begun(state), signs, taken)
    names = {}
    for word, wanted in zip(joint.halted(views)[0][0][3], goal.path):
        if word not in joint.named:
            names[word] = wanted
    told = [names.get(word, word) for word in path]
    return Address(state, tuple(told) + goal.path[len(goal.path) - left:])


def some_source(system, goal, state):
    """Return a shortest address with a state that settles at goal, or None."""
    joint = Joint(system)
    search = Search(joint, [state])
    best = None
    at = 0
    while at < len(search.nodes):
        views = search.nodes[at]
        signs = search.route(at)[1]
        left = left_behind(joint, views, goal)
        if left is not None and (best is None or len(signs) + left < len(best[0]) + best[1]):
            best = (signs, left)
        if views[0][0] == "on":
            search.widen(at)
        at += 1
    return None if best is None else renamed(joint, goal, state, *best)

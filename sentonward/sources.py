"""Which addresses end at a given address, and how many: [10], [14], [15]."""

from sentonward.addresses import Address
from sentonward.errors import InvalidWords, OutOfRange
from sentonward.kinds import are_words, is_index, is_integer
from sentonward.readings import numbered
from sentonward.stands import ordered, settling
from sentonward.views import Joint, Search, behind, fed, opening, team_of

MOST_WORDS = 8
MOST_SEGMENTS = 200


def check_words(value):
    """Raise an error for any value that is not a list of 1 to 8 different words."""
    if not are_words(value) or not 1 <= len(value) <= MOST_WORDS or len(set(value)) < len(value):
        raise InvalidWords(value)


class Net:
    """The views that are on and that a state leads to by some words, as a graph, and how they end at a goal.

    apart has the words that are told apart from all others; those that the system or the goal names are
    told apart, too. The others are read as integers, which are numbered as those of rows are.

    A move is a tuple (sign, left, target), and stands there as often as there are words for its sign;
    moves behind which no address ends at the goal may be left out. If target is None, then the address
    has settled, and ends at the goal exactly if the last segments of the goal, as many as left says, are
    all that stands behind. stops has 0 where the end of the path leads to the goal, and None elsewhere.
    """

    def __init__(self, system, goal, state, words, apart):
        self._team = team_of(system)
        self._goal = goal
        self._named = {word: True for word in (*system.words, *goal.path, *apart)}
        self._words = sorted(set([word for word in words if word in self._named]))
        self._free = len(words) - len(self._words)
        self._is_plain = len(self._team) == 1 and all([word in self._team[0].named for word in self._named])
        self._most_left = 0
        for segment in goal.path[::-1]:
            if segment not in self._words:
                break
            self._most_left += 1
        self._views = []
        self._places = {}
        self.moves = []
        self.stops = []
        self.start = self.lead(fed(self._team, opening(state), (), False)[0])
        while len(self.moves) < len(self._views):
            self.enter(self._views[len(self.moves)])

    def lead(self, view):
        """Return (left, target) of the moves to a view, or None if no address behind it ends at the goal."""
        kind, at, state, signs = view
        if kind == "on":
            if view not in self._places:
                view = (kind, at, state, numbered(signs, self._named)[0])
            if view not in self._places:
                self._places[view] = len(self._views)
                self._views.append(view)
            return 0, self._places[view]
        path = self._goal.path
        left = len(path) - len(signs)
        if kind == "never" or state != self._goal.state or signs != path[:len(signs)] or left > self._most_left:
            return None
        return left, None

    def signs_behind(self, view):
        """Return a list of tuples (sign, many) of what may be read from a view, and of how many words that is."""
        held = len(set([sign for sign in view[3] if is_integer(sign)]))
        told = [(sign, 1) for sign in self._words + list(range(1, held + 1))]
        return told if held == self._free else [*told, (held + 1, self._free - held)]

    def enter(self, view):
        """Note the end and the moves of the next view."""
        end = behind(self._team, view, None, self._is_plain)[0]
        self.stops.append(0 if end == ("settled", 0, self._goal.state, self._goal.path) else None)
        moves = []
        for sign, many in self.signs_behind(view):
            told = self.lead(behind(self._team, view, sign, self._is_plain)[0])
            if told is not None:
                moves.extend([(sign, *told)] * many)
        self.moves.append(moves)

    def rest(self, left):
        """Return the last segments of the goal, so many."""
        return self._goal.path[len(self._goal.path) - left:]


def count_behind(rows, many, left, target):
    """Return how many paths with so many segments lead from what a move leads to, to the goal.

    rows has a list for each number of segments, with the number of such paths for each view.
    """
    if target is None:
        return 1 if left == many else 0
    return rows[many][target]


def lengthen(net, rows):
    """Append the row of the next number of segments to a list of rows."""
    if not rows:
        rows.append([0 if stop is None else 1 for stop in net.stops])
        return
    many = len(rows) - 1
    rows.append([sum([count_behind(rows, many, left, target) for _, left, target in moves]) for moves in net.moves])


def paths_of(net, rows, many):
    """Yield the paths with so many segments that lead to the goal, in ascending order."""
    waiting = []
    if net.start is not None and count_behind(rows, many, *net.start) > 0:
        waiting.append(((), *net.start))
    while waiting:
        path, left, at = waiting.pop()
        if at is None:
            yield path + net.rest(left)
        elif len(path) == many:
            yield path
        else:
            # The last one that is put in is taken out first, so the greatest word is put in first.
            for word, more, target in net.moves[at][::-1]:
                if count_behind(rows, many - len(path) - 1, more, target) > 0:
                    waiting.append(((*path, word), more, target))


def tally(keys):
    """Return the ascending tuple of tuples (key, times) of the different keys in a list."""
    told = {}
    for key in keys:
        told[key] = told.get(key, 0) + 1
    return tuple(sorted(set(list(told.items()))))


def grouped(net):
    """Return a dict of the indexes of a net that lead to the goal with their groups, and the tallies of these.

    From all indexes of a group as many paths of each length lead to the goal: either all of them stop there
    or none does, and the tally has what their moves lead to: tuples ((left, group), times), where the group
    is -1 if the address has settled.
    """
    groups = {at: 0 if net.stops[at] is None else 1 for at in settling(net)}
    many = -1
    while True:
        found = {}
        told = {}
        for at in groups:
            moves = [move for move in net.moves[at] if move[2] is None or move[2] in groups]
            nexts = tally([(left, groups.get(target, -1)) for _, left, target in moves])
            found[at] = told.setdefault((groups[at], nexts), len(told))
        groups = found
        # Groups are only divided. So if there are no more of them, then they are the same, by the same numbers.
        if len(told) == many:
            return groups, [nexts for _, nexts in told]
        many = len(told)


def count_of(net, many):
    """Return how many paths with so many segments lead to the goal from the start of a net."""
    left, start = net.start
    if start is None:
        return 1 if left == many else 0
    groups, tallies = grouped(net)
    if start not in groups:
        return 0
    row = [0] * len(tallies)
    for at, group in groups.items():
        row[group] = 0 if net.stops[at] is None else 1
    plans = [[(times, group) for (_, group), times in nexts if group >= 0] for nexts in tallies]
    settled = [{left: times for (left, group), times in nexts if group < 0} for nexts in tallies]
    for size in range(many):
        row = [
            ends.get(size, 0) + sum([times * row[group] for times, group in plan])
            for plan, ends in zip(plans, settled)
        ]
    return row[groups[start]]


def most_segments(net):
    """Return the most segments of a path that leads to the goal, or None if there is no maximum."""
    ways = settling(net)
    order = ordered(net, ways)
    if len(order) < len(ways):
        return None
    most = {at: 0 for at in order}
    for at in order:
        for _, left, target in net.moves[at]:
            many = 1 + (left if target is None else most.get(target, -1))
            if many > most[at]:
                most[at] = many
    if net.start is None:
        return 0
    left, at = net.start
    return left if at is None else most.get(at, 0)


def sources(system, goal, state, words):
    """Yield all addresses with a state and segments from words that settle at goal, in ascending order."""
    check_words(words)
    net = Net(system, goal, state, words, words)
    most = most_segments(net)
    rows = []
    many = 0
    while most is None or many <= most:
        lengthen(net, rows)
        for path in paths_of(net, rows, many):
            yield Address(state, path)
        many += 1


def source_count(system, goal, state, words, many):
    """Return how many addresses of sources have exactly so many segments."""
    check_words(words)
    if not is_index(many, MOST_SEGMENTS + 1):
        raise OutOfRange(many)
    net = Net(system, goal, state, words, ())
    return 0 if net.start is None else count_of(net, many)


def are_endless(system, goal, state, words):
    """Return whether there are infinitely many addresses of sources."""
    check_words(words)
    return most_segments(Net(system, goal, state, words, ())) is None


def is_filled(signs, words, named):
    """Return whether signs can stand for words: integers stand for different ones that are not named."""
    told = {}
    back = {}
    for sign, word in zip(signs, words):
        if not is_integer(sign):
            if sign != word:
                return False
        elif word in named or told.setdefault(sign, word) != word or back.setdefault(word, sign) != sign:
            return False
    return True


def left_behind(joint, views, goal):
    """Return how many last segments of goal must stand behind numbered views for an end at goal, or None."""
    kind, _, state, signs = joint.halted(views)[0][0]
    left = len(goal.path) - len(signs)
    if kind == "never" or state != goal.state or left < 0 or not is_filled(signs, goal.path, joint.named):
        return None
    # What has not settled settles so only if the path ends here.
    return None if views[0][0] == "on" and left > 0 else left


def renamed(joint, goal, state, signs, left):
    """Return the address of signs that are read from a state, and of the last segments of goal behind them."""
    taken = {word: True for word in goal.path}
    path, views = joint.spelled(joint.begun(state), signs, taken)
    names = {}
    for word, wanted in zip(joint.halted(views)[0][0][3], goal.path):
        if word not in joint.named:
            names[word] = wanted
    told = [names.get(word, word) for word in path]
    return Address(state, tuple(told) + goal.path[len(goal.path) - left:])


def some_source(system, goal, state):
    """Return a shortest address with a state that settles at goal, or None."""
    joint = Joint(system)
    search = Search(joint, [state])
    best = None
    at = 0
    while at < len(search.nodes):
        views = search.nodes[at]
        signs = search.route(at)[1]
        left = left_behind(joint, views, goal)
        if left is not None and (best is None or len(signs) + left < len(best[0]) + best[1]):
            best = (signs, left)
        if views[0][0] == "on":
            search.widen(at)
        at += 1
    return None if best is None else renamed(joint, goal, state, *best)

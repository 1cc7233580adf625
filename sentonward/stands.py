"""The stands of a system as a graph: where each sign leads, and after how many steps."""

from sentonward.addresses import Address
from sentonward.views import Joint, Search, behind

# Behind the last sign that is read any segment may stand.
FILLING = "a"


class Graph:
    """The views of a system that are on, by their indexes: the ends of paths, and moves to others.

    A move is a tuple (sign, steps, target); target is None if the address settles whatever stands
    behind. There is none by a sign behind which addresses never settle. afters has the views to which
    the moves lead, with the signs as they are read. stops has the steps at the end of the path, or None
    where the address never settles, and ends the view behind it.
    """

    def __init__(self, system):
        self.joint = Joint(system)
        self.team = self.joint.teams[0]
        self.search = Search(self.joint, self.joint.openings)
        self.moves = []
        self.afters = []
        self.stops = []
        self.ends = []
        # Of the first sign behind which addresses never settle: from which index it was read, and how
        # many views had been found then.
        self.lost = None

    def enter(self):
        """Note the end and the moves of the next view of the search."""
        at = len(self.moves)
        views = self.search.nodes[at]
        # The named words are those of the books, so the rows of one book are asked as they stand.
        is_plain = len(self.team) == 1
        end, steps = behind(self.team, views[0], None, is_plain)
        self.stops.append(None if end[0] == "never" else steps)
        self.ends.append(end)
        moves = []
        afters = []
        for sign in self.joint.next_signs(views):
            after, steps = behind(self.team, views[0], sign, is_plain)
            if after[0] == "never":
                if self.lost is None:
                    self.lost = (at, sign, len(self.search.nodes))
            else:
                moves.append((sign, steps, self.search.found((after,), at, sign) if after[0] == "on" else None))
                afters.append(after)
        self.moves.append(moves)
        self.afters.append(afters)

    def complete(self):
        """Note the ends and the moves of all views."""
        while len(self.moves) < len(self.search.nodes):
            self.enter()

    def beginnings(self):
        """Return the list of tuples (state, index) of what is reached with nothing read."""
        return [(state, self.search.begun(state)) for state in self.joint.openings]

    def spelled(self, state, signs, many):
        """Return the address of signs that are read from a state, filled up to so many segments."""
        path = self.joint.spelled(self.joint.begun(state), signs)[0]
        return Address(state, path + (FILLING,) * (many - len(path)))


def whole_graph(system):
    """Return the graph of a system with the ends and the moves of all views."""
    graph = Graph(system)
    graph.complete()
    return graph


def first_lost(graph):
    """Return a shortest address that never settles, or None. No more of the graph is found than it needs."""
    at = 0
    while at < len(graph.search.nodes) and (graph.lost is None or at < graph.lost[2]):
        if at == len(graph.moves):
            graph.enter()
        if graph.stops[at] is None:
            return graph.search.address_of(at)
        at += 1
    if graph.lost is None:
        return None
    origin, sign, _ = graph.lost
    state, signs = graph.search.route(origin)
    return graph.spelled(state, signs + [sign], 0)


def settling(graph):
    """Return a dict of the indexes from which some path settles, with a way to it.

    The way is the first sign and the index behind it: (None, None) at the end of the path, and
    (sign, None) if the address settles whatever stands behind.
    """
    before = [[] for _ in graph.moves]
    ways = {}
    for at, moves in enumerate(graph.moves):
        if graph.stops[at] is not None:
            ways[at] = (None, None)
        for sign, _, target in moves:
            if target is not None:
                before[target].append((sign, at))
            elif at not in ways:
                ways[at] = (sign, None)
    queue = list(ways)
    done = 0
    while done < len(queue):
        target = queue[done]
        done += 1
        for sign, at in before[target]:
            if at not in ways:
                ways[at] = (sign, target)
                queue.append(at)
    return ways


def ordered(graph, ways):
    """Return a list of indexes that settle, each behind all that it leads to, without those that lead to rings."""
    ahead = {at: 0 for at in ways}
    before = {at: [] for at in ways}
    for at in ways:
        for _, _, target in graph.moves[at]:
            if target in ways:
                ahead[at] += 1
                before[target].append(at)
    queue = [at for at in ways if ahead[at] == 0]
    done = 0
    while done < len(queue):
        target = queue[done]
        done += 1
        for at in before[target]:
            ahead[at] -= 1
            if ahead[at] == 0:
                queue.append(at)
    return queue

"""The stands of a system as a graph: where each sign leads, and after how many steps."""

from sentonward.addresses import Address
from sentonward.views import Joint, Search

# Behind the last sign that is read any segment may stand.
FILLING = "a"


class Graph:
    """The views of a system that are on, by their indexes: the ends of paths, and moves to others.

    A move is a tuple (sign, steps, target); target is None if the address settles whatever stands
    behind. stops has the steps at the end of the path, or None where the address never settles.
    """

    def __init__(self, system):
        self.joint = Joint(system)
        self.search = Search(self.joint, self.joint.openings)
        self.moves = []
        self.stops = []
        while len(self.moves) < len(self.search.nodes):
            self.enter(self.search.nodes[len(self.moves)])

    def enter(self, views):
        """Note the end and the moves of the next views of the search."""
        at = len(self.moves)
        ends, steps = self.joint.halted(views)
        self.stops.append(None if ends[0][0] == "never" else steps)
        moves = []
        self.moves.append(moves)
        for sign in self.joint.next_signs(views):
            after, steps = self.joint.moved(views, sign)
            if after[0][0] == "on":
                moves.append((sign, steps, self.search.found(after, at, sign)))
            elif after[0][0] == "settled":
                moves.append((sign, steps, None))

    def beginnings(self):
        """Return the list of tuples (state, index) of what is reached with nothing read."""
        return [(state, self.search.begun(state)) for state in self.joint.openings]

    def spelled(self, state, signs, many):
        """Return the address of signs that are read from a state, filled up to so many segments."""
        path = self.joint.spelled(self.joint.begun(state), signs)[0]
        return Address(state, path + (FILLING,) * (many - len(path)))


def settling(graph):
    """Return a dict of the indexes from which some path settles, with a way to it.

    The way is the first sign and the index behind it: (None, None) at the end of the path, and
    (sign, None) if the address settles whatever stands behind.
    """
    before = [[] for _ in graph.moves]
    ways = {}
    for at, moves in enumerate(graph.moves):
        if graph.stops[at] is not None:
            ways[at] = (None, None)
        for sign, _, target in moves:
            if target is not None:
                before[target].append((sign, at))
            elif at not in ways:
                ways[at] = (sign, None)
    queue = list(ways)
    done = 0
    while done < len(queue):
        target = queue[done]
        done += 1
        for sign, at in before[target]:
            if at not in ways:
                ways[at] = (sign, target)
                queue.append(at)
    return ways


def ordered(graph, ways):
    """Return a list of indexes that settle, each behind all that it leads to, without those that lead to rings."""
    ahead = {at: 0 for at in ways}
    before = {at: [] for at in ways}
    for at in ways:
        for _, _, target in graph.moves[at]:
            if target in ways:
                ahead[at] += 1
                before[target].append(at)
    queue = [at for at in ways if ahead[at] == 0]
    done = 0
    while done < len(queue):
        target = queue[done]
        done += 1
        for at in before[target]:
            ahead[at] -= 1
            if ahead[at] == 0:
                queue.append(at)
    return queue

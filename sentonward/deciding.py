"""How far paths must be read until their ends are decided: the readings of [40]."""

from sentonward.errors import TooMany
from sentonward.limits import READINGS
from sentonward.reaching import reached
from sentonward.views import fed


def ended(graph, view):
    """Return the settled view behind a view at the end of the path."""
    return fed(graph.team, view, (), True)[0]


def is_odd(graph, at):
    """Return whether some sign that is read from an index does not just stand behind the end that was there."""
    _, _, state, beginning = graph.ends[at]
    for (sign, _, target), after in zip(graph.moves[at], graph.afters[at]):
        # A numbered view stands in the graph as it is, and its end with it.
        is_there = target is not None and graph.search.nodes[target][0] == after
        end = graph.ends[target] if is_there else ended(graph, after)
        if end[2] != state or end[3] != (*beginning, sign):
            return True
    return False


def undecided(graph):
    """Return a dict of the indexes that do not decide, where all addresses settle.

    An index decides if no sign that is read from it is odd, and if what is behind each sign decides, too.
    """
    before = {}
    for at, moves in enumerate(graph.moves):
        for _, _, target in moves:
            if target is not None:
                before.setdefault(target, []).append(at)
    odd = [at for at in range(len(graph.moves)) if is_odd(graph, at)]
    return {at: True for at in reached(odd, before)}


def branches(graph, view, new):
    """Return a list of the signs that may be read behind the signs of a reading, the new integer last.

    Each comes with the pairs of integers that represent different segments because of it.
    """
    held = sorted(set([sign for sign in view[3] if not isinstance(sign, str)]))
    told = [(sign, ()) for sign in graph.joint.vocabulary + held]
    return [*told, (new, tuple([(sign, new) for sign in held]))]


def readings(graph):
    """Return the list of the readings of a system where there is a longest run and all addresses settle.

    graph is that of the system. A reading is a tuple (state, signs, is_end, goal, apart): the addresses
    of the reading settle at the goal, a tuple of a state and a beginning. Integers stand for segments
    that are not named, and the pairs in apart for different ones. A reading stands ahead of those that
    its signs would also match.
    """
    open_indexes = undecided(graph)
    told = []
    waiting = [(state, (), graph.joint.begun(state)[0], 1, ()) for state in graph.joint.openings[::-1]]
    while waiting:
        state, signs, view, new, apart = waiting.pop()
        is_end = view[0] == "on" and graph.search.place_of((view,)) in open_indexes
        told.append((state, signs, is_end, ended(graph, view)[2:], apart))
        if len(told) > READINGS:
            raise TooMany(READINGS)
        nexts = branches(graph, view, new) if is_end else []
        for sign, pairs in nexts[::-1]:
            after = fed(graph.team, view, (sign,), False)[0]
            waiting.append((state, (*signs, sign), after, new + 1 if sign == new else new, apart + pairs))
    return told

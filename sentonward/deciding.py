"""How far paths must be read until their ends are decided: the readings of [40]."""

from sentonward.errors import TooMany
from sentonward.kinds import is_integer
from sentonward.limits import READINGS
from sentonward.reaching import reached
from sentonward.views import Joint, Search


def ended(joint, views):
    """Return the settled view of a system at the end of the path."""
    return joint.halted(views)[0][0]


def put_off(view, sign):
    """Return a settled view with one sign more at the end of its path."""
    kind, at, state, signs = view
    return kind, at, state, (*signs, sign)


def undecided(joint):
    """Return a dict of the numbered views that are on and do not decide, where all addresses settle.

    A view decides if any sign that is read changes the end of the path only by standing behind it, and
    if the view behind the sign decides, too.
    """
    search = Search(joint, joint.openings)
    before = {}
    odd = []
    at = 0
    while at < len(search.nodes):
        views = search.nodes[at]
        signs = joint.next_signs(views) if views[0][0] == "on" else []
        for sign in signs:
            after = joint.moved(views, sign)[0]
            before.setdefault(search.found(after, at, sign), []).append(at)
            if ended(joint, after) != put_off(ended(joint, views), sign):
                odd.append(at)
        at += 1
    return {search.nodes[at]: True for at in reached(odd, before)}


def branches(joint, views, signs):
    """Return a list of the signs that may be read behind the signs of a reading, the new integer last.

    Each comes with the pairs of integers that represent different segments because of it.
    """
    held = sorted(set([sign for sign in views[0][3] if is_integer(sign)]))
    new = 1 + len(set([sign for sign in signs if is_integer(sign)]))
    told = [(sign, ()) for sign in joint.vocabulary + held]
    return [*told, (new, tuple([(sign, new) for sign in held]))]


def readings(system):
    """Return the list of the readings of a system where there is a longest run and all addresses settle.

    A reading is a tuple (state, signs, is_end, goal, apart): the addresses of the reading settle at the
    goal, a tuple of a state and a beginning. Integers stand for segments that are not named, and the
    pairs in apart for different ones. A reading stands ahead of those that its signs would also match.
    """
    joint = Joint(system)
    open_views = undecided(joint)
    told = []
    waiting = [(state, (), joint.begun(state), ()) for state in joint.openings[::-1]]
    while waiting:
        state, signs, views, apart = waiting.pop()
        is_end = joint.plain(views)[0] in open_views
        told.append((state, signs, is_end, ended(joint, views)[2:], apart))
        if len(told) > READINGS:
            raise TooMany(READINGS)
        nexts = branches(joint, views, signs) if is_end else []
        for sign, pairs in nexts[::-1]:
            waiting.append((state, (*signs, sign), joint.moved(views, sign)[0], apart + pairs))
    return told

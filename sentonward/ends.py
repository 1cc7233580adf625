"""Where addresses end, and those that never do: [3], [14], [15], [23]."""

from sentonward.addresses import Address
from sentonward.errors import Unsettled
from sentonward.views import NEVER, Joint, Search, fed, opening, team_of


def end_of(system, address):
    """Return the end of an address and its number of steps, or None if it never settles."""
    view, steps = fed(team_of(system), opening(address.state), address.path, True)
    if view[0] == "never":
        return None
    return Address(view[2], view[3]), steps


def last_of(system, address):
    """Return the end of an address."""
    told = end_of(system, address)
    if told is None:
        raise Unsettled(address)
    return told[0]


def never_settles(system):
    """Return a shortest address that never settles, or None if all addresses settle."""
    joint = Joint(system)
    search = Search(joint, joint.openings)
    at = 0
    while at < len(search.nodes):
        views = search.nodes[at]
        if joint.halted(views)[0][0] == NEVER:
            return search.address_of(at)
        if views[0][0] == "on":
            search.widen(at)
        at += 1
    return None


def downwards(lefts):
    """Return the tuple of all segments that are left, those that were left last standing first."""
    return tuple([word for left in lefts[::-1] for word in left])


def ring(book, address):
    """Return what comes again and again in the run of an address, or None if the address settles.

    A row that never settles asks one that never settles, and what stands behind the signs of such a
    row is never read. So the same row comes again, with more behind its signs, or with the same.
    """
    reader = book.reader()
    trace = reader.reading(address.state, (), address.path, True)
    if trace.ending != "never":
        return None
    seen = {}
    lefts = []
    while trace.row() not in seen:
        state, hand, sign = trace.row()
        seen[trace.row()] = len(lefts)
        lefts.append(trace.unread()[1:])
        signs = hand if sign is None else (*hand, sign)
        trace = reader.opened(state, signs, sign is None)
        reader.finish(trace, sign is None)
    at = seen[trace.row()]
    lefts.append(trace.unread()[1:])
    state, hand, sign = trace.row()
    signs = hand if sign is None else (*hand, sign)
    first = Address(state, signs + downwards(lefts[:at + 1]))
    return first, downwards(lefts[at + 1:])

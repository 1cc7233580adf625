"""Systems beside each other: where they differ, and closed sets that certify that they do not: [30], [31]."""

from sentonward.kinds import is_integer, is_word
from sentonward.readings import HAND
from sentonward.views import NEVER, Joint, Search

# So many different settled views beside each view that is on tell whether a difference can follow.
BESIDE = 2


def are_unlike(ends):
    """Return whether the views of two systems at the end of a path tell of different ends."""
    return ends[0] != ends[1]


def is_lost(ends):
    """Return whether, by the views at the end of a path, the first system settles and the second not so."""
    return ends[0] != NEVER and ends[0] != ends[1]


def goes_on(views):
    """Return whether a view is on."""
    return views[0][0] == "on" or views[1][0] == "on"


def is_spent(search, beside, views):
    """Return whether views are one settled view too many beside a view that is on; if not, count them."""
    if views[0][0] != "on" or views[1][0] != "settled":
        return False
    first = search.joint.plain((views[0],))[0]
    beside[first] = beside.get(first, 0) + 1
    return beside[first] > BESIDE


def differing(search, is_wanted, is_one_sided):
    """Return the index of the first views in a search of two systems with wanted ends, or None.

    If it is only asked where the first system settles, then its view may never settle for long while
    the second one has settled. Of different settled views beside it, at most one goes with what it
    settles at. So where one settled view more would lead to a difference, one of the first two does.
    """
    beside = {}
    at = 0
    while at < len(search.nodes):
        views = search.nodes[at]
        if is_wanted(search.joint.halted(views)[0]):
            return at
        is_vain = is_one_sided and (views[0] == NEVER or is_spent(search, beside, views))
        if goes_on(views) and not is_vain:
            search.widen(at)
        at += 1
    return None


def both_begun(one, other):
    """Return the search of two systems, which has read nothing yet."""
    joint = Joint(one, other)
    return Search(joint, joint.openings)


def parted(one, other):
    """Return a shortest address for which two systems differ, or None if they are equivalent."""
    search = both_begun(one, other)
    at = differing(search, are_unlike, False)
    return None if at is None else search.address_of(at)


def more_in(one, other):
    """Return a shortest address that settles in the first system but not at the same end in the second."""
    search = both_begun(one, other)
    at = differing(search, is_lost, True)
    return None if at is None else search.address_of(at)


def are_alike(one, other):
    """Return whether two systems are equivalent."""
    return parted(one, other) is None


def tells_no_more(one, other):
    """Return whether the first system is covered by the second."""
    return more_in(one, other) is None


def told_view(view):
    """Return a view of a book in the form of [31]."""
    kind, _, state, signs = view
    return ("never",) if kind == "never" else (kind, state, signs)


def pairs(one, other):
    """Return a closed set of pairs of two books, or None if they are not equivalent."""
    search = both_begun(one, other)
    if differing(search, are_unlike, False) is not None:
        return None
    return tuple([(told_view(views[0]), told_view(views[1])) for views in search.nodes])


def are_signs(value):
    """Return whether value is a tuple of strings and integers."""
    return isinstance(value, tuple) and all([isinstance(sign, str) or is_integer(sign) for sign in value])


def view_of(value, reader):
    """Return the view that any value tells of in the form of [31], or None if it has not this form.

    Its signs may be any strings and integers.
    """
    if not isinstance(value, tuple) or len(value) == 0 or not isinstance(value[0], str):
        return None
    if value[0] == "never":
        return NEVER if len(value) == 1 else None
    if len(value) != 3 or not is_word(value[1]) or not are_signs(value[2]):
        return None
    kind, state, signs = value
    if kind == "on" and state in reader.starts and len(signs) <= HAND:
        return "on", 0, state, signs
    return ("settled", 0, state, signs) if kind == "settled" else None


def views_of(value, joint):
    """Return the numbered views that any value tells of as a pair of two books, or None if it is none."""
    if not isinstance(value, tuple) or len(value) != 2:
        return None
    views = tuple([view_of(told, team[0]) for told, team in zip(value, joint.teams)])
    # Signs that are not numbered, or strings that are not named, would be told by other integers.
    if None in views or joint.plain(views)[0] != views:
        return None
    return views


def is_closed(joint, kept):
    """Return whether the views that are the keys of a dict lead to others of them, and to equal ends."""
    for views in kept:
        if are_unlike(joint.halted(views)[0]):
            return False
        signs = joint.next_signs(views) if goes_on(views) else []
        if not all([joint.plain(joint.moved(views, sign)[0])[0] in kept for sign in signs]):
            return False
    return all([joint.begun(state) in kept for state in joint.openings])


def is_pairs(one, other, value):
    """Return whether any value is a closed set of pairs of two books."""
    if not isinstance(value, tuple):
        return False
    joint = Joint(one, other)
    kept = {}
    for told in value:
        views = views_of(told, joint)
        if views is None or views in kept:
            return False
        kept[views] = True
    return is_closed(joint, kept)

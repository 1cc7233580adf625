"""Addresses that may be very long, and where they end."""

from sentonward.errors import InvalidAddress
from sentonward.kinds import are_words, is_integer, is_word
from sentonward.views import fed, opening, team_of

MOST_PIECES = 20
MOST_SEGMENTS = 8
MOST_TIMES = 10 ** 30


def is_piece(value):
    """Return whether value is a tuple of a list of words and how often it stands there."""
    if not isinstance(value, tuple) or len(value) != 2:
        return False
    segments, times = value
    if not are_words(segments) or not 1 <= len(segments) <= MOST_SEGMENTS:
        return False
    return is_integer(times) and 0 <= times <= MOST_TIMES


def are_pieces(value):
    """Return whether value is a list of pieces."""
    if not isinstance(value, (list, tuple)) or len(value) > MOST_PIECES:
        return False
    return all([is_piece(piece) for piece in value])


class Far:
    """An address whose path is made of pieces that stand there many times; it never changes."""

    def __init__(self, state, pieces):
        if not is_word(state):
            raise InvalidAddress("state")
        if not are_pieces(pieces):
            raise InvalidAddress("pieces")
        self._state = state
        self._pieces = tuple([(tuple(segments), times) for segments, times in pieces])

    @property
    def state(self):
        """The state, a word."""
        return self._state

    @property
    def pieces(self):
        """The tuple of the pieces, tuples of a tuple of segments and an integer."""
        return self._pieces


def size_in(pieces):
    """Return the number of segments in pieces."""
    return sum([len(segments) * times for segments, times in pieces])


def size_of(far):
    """Return the number of segments of a far address."""
    return size_in(far.pieces)


def last_segments(pieces, many):
    """Return the last segments of the path of pieces: so many, or all if there are fewer."""
    told = ()
    for segments, times in pieces[::-1]:
        wanted = (many - len(told)) // len(segments) + 1
        told = segments * (wanted if wanted < times else times) + told
        if len(told) >= many:
            return told[len(told) - many:]
    return told


def fed_often(team, view, segments, times):
    """Read segments again and again, at most so many times, until the view is not on any more.

    Return the view, the steps, and how often the segments have been read.
    """
    seen = {}
    steps = 0
    done = 0
    while done < times and view[0] == "on":
        if view in seen:
            # From here on the same views come again, so all whole rounds are taken at once.
            before, less = seen[view]
            rounds = (times - done) // (done - before)
            steps += rounds * (steps - less)
            done += rounds * (done - before)
            seen = {}
            if done == times:
                break
        seen[view] = (done, steps)
        view, more = fed(team, view, segments, False)
        steps += more
        done += 1
    return view, steps, done


def split_end(state, path, read, unread, steps):
    """Return what far_end tells of an end: its state, and its path, behind which the unread pieces stand.

    read are the pieces in front of the unread ones; segments at the end of the path that stand at
    their end as well count as left.
    """
    last = last_segments(read, len(path))
    same = 0
    while same < len(last) and path[-1 - same] == last[-1 - same]:
        same += 1
    return state, path[:len(path) - same], same + size_in(unread), steps


def far_end(system, far):
    """Return (state, beginning, left, steps) of the end of a far address, or None if it never settles."""
    team = team_of(system)
    view, steps = fed(team, opening(far.state), (), False)
    read = []
    unread = list(far.pieces)
    while unread and view[0] == "on":
        segments, times = unread.pop(0)
        view, more, done = fed_often(team, view, segments, times)
        steps += more
        read.append((segments, done))
        if done < times:
            unread.insert(0, (segments, times - done))
    if view[0] == "on":
        view, more = fed(team, view, (), True)
        steps += more
    if view[0] == "never":
        return None
    return split_end(view[2], view[3], read, unread, steps)

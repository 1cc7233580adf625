"""Views: what systems have reached by reading the same path, each on its own.

A view is a tuple (kind, at, state, signs): ("on", at, state, hand) at a stand of the book with the
index at, ("settled", 0, state, beginning) behind the last book, or NEVER.
"""

from sentonward.addresses import Address
from sentonward.books import parts_of
from sentonward.kinds import is_integer
from sentonward.readings import HAND, numbered

NEVER = ("never", 0, "", ())
ALPHABET = "abcdefghijklmnopqrstuvwxyz"


def team_of(system):
    """Return the list of the readers of the books of a system."""
    return [part.reader() for part in parts_of(system)]


def opening(state):
    """Return the view from which the reading of addresses with a state begins."""
    return ("on", 0, state, ())


def fed(team, view, signs, is_end):
    """Return the view after reading signs, and the end of the path if is_end, and the steps it takes."""
    kind, at, state, hand = view
    if kind == "never":
        return NEVER, 0
    if kind == "settled":
        return ("settled", 0, state, hand + signs), 0
    steps = 0
    while at < len(team):
        kind, state, hand, done, more, _ = team[at].reading(state, hand, signs, is_end, [])
        if kind == "never":
            return NEVER, 0
        steps += more
        if kind == "on":
            return ("on", at, state, hand), steps
        # The next book reads what this one has settled, with all that stands behind.
        signs, hand = hand + signs[done:], ()
        at += 1
    return ("settled", 0, state, signs), steps


def behind(team, view, sign, is_plain):
    """Return the view after reading a sign from a view that is on, and the steps this takes.

    None stands for the end of the path. is_plain says that there is one book, whose named words are all
    words among the signs, and that the integers are numbered: then its rows are asked as they stand.
    """
    if not is_plain:
        return fed(team, view, () if sign is None else (sign,), sign is None)
    _, _, state, hand = view
    if sign is not None and len(hand) < HAND:
        return ("on", 0, state, (*hand, sign)), 0
    value = team[0].known((state, hand, sign))[0]
    if value[0] == "never":
        return NEVER, 0
    return (value[0], 0, value[1], value[2]), value[3]


def word_at(number):
    """Return the word with this number, from 0 on: the shorter words first, then by their letters."""
    number += 1
    word = ""
    while number > 0:
        number, letter = divmod(number - 1, len(ALPHABET))
        word = ALPHABET[letter] + word
    return word


def spare_word(*taken):
    """Return the first word that is in none of some lists or dicts."""
    number = 0
    while any([word_at(number) in each for each in taken]):
        number += 1
    return word_at(number)


class Joint:
    """One or more systems that read the same path."""

    def __init__(self, *systems):
        self.teams = [team_of(system) for system in systems]
        self.named = {}
        self.vocabulary = sorted(set([word for system in systems for word in system.words]))
        for word in self.vocabulary:
            self.named[word] = True
        readers = [reader for team in self.teams for reader in team]
        self.openings = sorted(set([state for reader in readers for state in reader.starts]))

    def begun(self, state):
        """Return the views of a state with nothing read."""
        return tuple([fed(team, opening(state), (), False)[0] for team in self.teams])

    def plain(self, views):
        """Return views that are numbered through all of them, and the list of what the integers stand for."""
        signs, held = numbered([sign for view in views for sign in view[3]], self.named)
        told = []
        at = 0
        for kind, place, state, old in views:
            told.append((kind, place, state, signs[at:at + len(old)]))
            at += len(old)
        return tuple(told), held

    def next_signs(self, views):
        """Return the list of the signs that can be read from numbered views."""
        last = 0
        held = []
        for view in views:
            for sign in view[3]:
                if is_integer(sign):
                    if view[0] == "on":
                        held.append(sign)
                    if sign > last:
                        last = sign
        return self.vocabulary + sorted(set(held)) + [last + 1]

    def all_fed(self, views, signs, is_end):
        """Return the views after reading signs, and the end of the path if is_end, and all steps it takes."""
        told = []
        steps = 0
        for team, view in zip(self.teams, views):
            after, more = fed(team, view, signs, is_end)
            told.append(after)
            steps += more
        return tuple(told), steps

    def moved(self, views, sign):
        """Return the views after reading a sign, and the steps that this takes in all."""
        return self.all_fed(views, (sign,), False)

    def halted(self, views):
        """Return the views at the end of the path, and the steps that this takes in all."""
        return self.all_fed(views, (), True)

    def spelled(self, views, signs, taken=()):
        """Return the words for signs that are read from views of words, and the views behind them.

        The integers of each sign are those of the numbered views from which it is read. No word is
        made up that is taken.
        """
        path = []
        for sign in signs:
            word = sign
            if is_integer(sign):
                held = self.plain(views)[1]
                word = held[sign - 1] if sign <= len(held) else spare_word(self.named, held, taken)
            path.append(word)
            views = self.moved(views, word)[0]
        return tuple(path), views


class Search:
    """The numbered views that are found by reading, each with the sign by which it was found first."""

    def __init__(self, joint, states):
        self.joint = joint
        self.nodes = []
        self._origins = []
        self._places = {}
        for state in states:
            self.begun(state)

    def begun(self, state):
        """Return the index of the views of a state with nothing read."""
        return self.found(self.joint.begun(state), None, state)

    def found(self, views, origin, sign):
        """Return the index of views that a sign leads to from the ones with an index."""
        if views not in self._places:
            # All that have a place are numbered.
            views = self.joint.plain(views)[0]
        if views not in self._places:
            self._places[views] = len(self.nodes)
            self.nodes.append(views)
            self._origins.append((origin, sign))
        return self._places[views]

    def place_of(self, views):
        """Return the index of views that have been found."""
        if views not in self._places:
            views = self.joint.plain(views)[0]
        return self._places[views]

    def widen(self, at):
        """Find the views to which each sign leads from those with an index."""
        views = self.nodes[at]
        for sign in self.joint.next_signs(views):
            self.found(self.joint.moved(views, sign)[0], at, sign)

    def route(self, at):
        """Return a state and the list of the signs that lead from it to the views with an index."""
        signs = []
        origin, sign = self._origins[at]
        while origin is not None:
            signs.append(sign)
            origin, sign = self._origins[origin]
        return sign, signs[::-1]

    def address_of(self, at):
        """Return an address whose reading leads to the views with an index."""
        state, signs = self.route(at)
        return Address(state, self.joint.spelled(self.joint.begun(state), signs)[0])

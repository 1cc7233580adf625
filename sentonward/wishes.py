"""Wishes: where all addresses that begin alike shall settle: [14], [15]."""

from sentonward.addresses import Address
from sentonward.errors import InvalidWish
from sentonward.kinds import are_words, is_word
from sentonward.views import Joint, opening, spare_word

MOST_SEGMENTS = 6


def are_few_words(value):
    """Return whether value is a list of words, no more than a wish takes."""
    return are_words(value) and len(value) <= MOST_SEGMENTS


def is_goal(value):
    """Return whether value is a tuple of a state and a list of words."""
    return isinstance(value, tuple) and len(value) == 2 and is_word(value[0]) and are_few_words(value[1])


class Wish:
    """That an address with a beginning settles at a goal, whatever stands behind; it never changes."""

    def __init__(self, state, beginning, goal):
        if not is_word(state):
            raise InvalidWish("state")
        if not are_few_words(beginning):
            raise InvalidWish("beginning")
        if not is_goal(goal):
            raise InvalidWish("goal")
        self._state = state
        self._beginning = tuple(beginning)
        self._goal = (goal[0], tuple(goal[1]))
        self._key = (self._state, self._beginning, self._goal)

    @property
    def state(self):
        """The state of the addresses, a word."""
        return self._state

    @property
    def beginning(self):
        """The tuple of the segments with which the addresses begin."""
        return self._beginning

    @property
    def goal(self):
        """The tuple of a state and the tuple of the segments in the place of the beginning."""
        return self._goal

    def __eq__(self, other):
        if not isinstance(other, Wish):
            return NotImplemented
        return self._key == other._key

    def broken(self, system):
        """Return a shortest address that does not settle as wished, or None.

        What is right for segments that are all different is right for all. As long as all ends are
        right, the whole path can be told from the view behind it, so it cannot become long: there are
        only so many views that are on.
        """
        joint = Joint(system)
        state, words = self._goal
        queue = [((), joint.all_fed((opening(self._state),), self._beginning, False)[0])]
        done = 0
        while done < len(queue):
            path, views = queue[done]
            done += 1
            if joint.halted(views)[0][0] != ("settled", 0, state, words + path):
                return Address(self._state, self._beginning + path)
            for word in self.next_words(joint, path, views):
                queue.append(((*path, word), joint.moved(views, word)[0]))
        return None

    def next_words(self, joint, path, views):
        """Return the list of the words that are read behind a path: named ones, those in hand, and a new one."""
        if views[0][0] != "on":
            return []
        held = sorted(set([word for word in views[0][3] if word not in joint.named]))
        new = spare_word(joint.named, self._beginning, self._goal[1], path)
        return joint.vocabulary + held + [new]

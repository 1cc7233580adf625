"""Which rows and states can have runs without end: [14], [22]."""

from sentonward.readings import HAND
from sentonward.tables import hands, next_signs


def changes(rules):
    """Return a dict of the tuples of two states between which rules lead, with how many segments are won at most."""
    told = {}
    for rule in rules:
        if rule.goal is not None:
            way = (rule.state, rule.goal[0])
            won = len(rule.goal[1]) - len(rule.pattern)
            if way not in told or won > told[way]:
                told[way] = won
    return told


def lasting_states(rules):
    """Return the ascending list of the states from which rules lead to a ring of states that may last.

    Each step makes a path longer or shorter by a number that the rule alone tells. So if each round of a
    ring makes it shorter, then the ring is left at last, and a run without end needs another one.
    """
    ways = changes(rules)
    states = sorted(set([state for state, _ in ways]))
    for middle in states:
        starts = [start for start in states if (start, middle) in ways]
        goals = [goal for goal in states if (middle, goal) in ways]
        for start in starts:
            for goal in goals:
                won = ways[start, middle] + ways[middle, goal]
                if (start, goal) not in ways or won > ways[start, goal]:
                    ways[start, goal] = won
    rings = [state for state in states if ways.get((state, state), -1) >= 0]
    return [state for state in states if any([(state, ring) in ways for ring in rings])]


def layers(words):
    """Return four lists of the tuples (hand, sign) of the rows of a state: with no sign, one, two and three signs."""
    every = hands(words)
    told = [[(hand, None) for hand in every if len(hand) == size] for size in range(HAND + 1)]
    return [*told, [(hand, sign) for hand in every if len(hand) == HAND for sign in next_signs(words, hand)]]


def first_never(book):
    """Return a row with the fewest signs of all rows that never settle, or None.

    Any hand is reached by reading nothing else. So if an address never settles whose reading asks such a
    row, then the addresses of the row itself, which have no more segments, never settle either.
    """
    states = lasting_states(book.rules)
    if not states:
        return None
    reader = book.reader()
    for layer in layers(book.words):
        for state in states:
            for hand, sign in layer:
                row = (state, hand, sign)
                if reader.known(row)[0][0] == "never":
                    return row
    return None

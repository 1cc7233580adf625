"""Reading paths once, from left to right, with at most two segments in hand: [20] to [23].

How far signs have been read is told by a tuple (kind, state, front, at, steps, wanted). kind is "on" at a
stand, "settled" or "never". front is what is in hand, or the settled beginning, and at is how many of the
signs have been read. Where a row never settles, the reading stays where it has been asked. wanted is None,
or the row that is asked next, if it must be found out before the reading can go on.
"""

from sentonward.kinds import is_integer
from sentonward.rules import matched, sent

HAND = 2


def numbered(signs, named):
    """Return signs with integers in the place of those that are not named, and the list of these.

    The integers are 1, 2, .. in the order of their first occurrences.
    """
    held = []
    told = []
    for sign in signs:
        if sign in named:
            told.append(sign)
        else:
            if sign not in held:
                held.append(sign)
            told.append(held.index(sign) + 1)
    return tuple(told), held


def restored(signs, held):
    """Return signs with the held ones in the place of the integers: the way back from numbered."""
    return tuple([held[sign - 1] if is_integer(sign) else sign for sign in signs])


def signs_in(row):
    """Return the signs of the hand of a row and of what is read next."""
    _, hand, sign = row
    return hand if sign is None else (*hand, sign)


def place_in(told, signs):
    """Return the state, the hand and the sign that is read next, or None behind the last one, as they are."""
    _, state, hand, at, _, _ = told
    return state, hand, signs[at] if at < len(signs) else None


class Reader:
    """What reads paths for a list of rules; it keeps the values of the rows that have been asked."""

    def __init__(self, rules):
        # The rules of each state, as tuples (pattern, is_exact, goal).
        self.starts = {}
        self.named = {}
        self._known = {}
        for rule in rules:
            self.starts.setdefault(rule.state, []).append((rule.pattern, rule.is_exact, rule.goal))
            for word in rule.words:
                self.named[word] = True

    def begun(self, state, steps):
        """Return how reading begins from a state after so many steps."""
        return "on" if state in self.starts else "settled", state, (), 0, steps, None

    def opened(self, row):
        """Return how the value of a row begins, and the signs that are read for it."""
        state, _, sign = row
        signs = signs_in(row)
        for pattern, is_exact, goal in self.starts[state]:
            holes = matched(pattern, is_exact, signs, sign is None)
            if holes is not None:
                if goal is None:
                    break
                return self.begun(goal[0], 1), sent(pattern, goal[1], signs, holes)
        return ("settled", state, (), 0, 0, None), signs

    def row_of(self, state, hand, sign):
        """Return the row of a stand and what is read next, and what its integers stand for."""
        if sign is None:
            signs, held = numbered(hand, self.named)
            return (state, signs, None), held
        signs, held = numbered((*hand, sign), self.named)
        return (state, signs[:-1], signs[-1]), held

    def follow(self, told, signs, is_end, asked):
        """Read on from a stand, as far as rows are known; append these to asked. Return how far it goes."""
        kind, state, hand, at, steps, _ = told
        while kind == "on" and (at < len(signs) or is_end):
            sign = signs[at] if at < len(signs) else None
            if sign is not None and len(hand) < HAND:
                hand = (*hand, sign)
                at += 1
                continue
            row = (state, hand, sign)
            held = None
            if row not in self._known:
                row, held = self.row_of(state, hand, sign)
                if row not in self._known:
                    return kind, state, hand, at, steps, row
            asked.append(row)
            value = self._known[row][0]
            kind = value[0]
            if kind != "never":
                state = value[1]
                # What is known as it stands needs no other signs.
                hand = value[2] if held is None else restored(value[2], held)
                steps += value[3]
                if sign is not None:
                    at += 1
        return kind, state, hand, at, steps, None

    def finish(self, told, signs, is_end, asked):
        """Read on until reading ends or all signs are read; append the rows that are asked to asked."""
        told = self.follow(told, signs, is_end, asked)
        while told[5] is not None:
            self.known(told[5])
            told = self.follow(told, signs, is_end, asked)
        return told

    def entered(self, row):
        """Return (told, signs, asked) of the reading for a row, as far as it goes; note the row if it is finished."""
        told, signs = self.opened(row)
        asked = []
        if told[0] == "on":
            told = self.follow(told, signs, row[2] is None, asked)
        if told[5] is None:
            self.note(row, told, signs, asked)
        return told, signs, asked

    def note(self, row, told, signs, asked):
        """Keep the value and the rank of a row whose reading is finished.

        The rank is the height: 0 if no row is asked, else one more than the greatest one asked.
        """
        kind, state, front, at, steps, _ = told
        if kind == "never":
            self._known[row] = (("never",), None)
            return
        rank = 0
        for each in asked:
            other = self._known[each][1]
            if other >= rank:
                rank = other + 1
        self._known[row] = ((kind, state, front + signs[at:], steps), rank)

    def work_out(self, row, told, signs, asked):
        """Find the value and the rank of a row whose reading asks for others, and first those of these rows."""
        waiting = [row]
        begun = {row: (told, signs, asked)}
        while waiting:
            top = waiting[-1]
            told, signs, asked = begun[top]
            if told[5] in self._known:
                told = self.follow(told, signs, top[2] is None, asked)
                begun[top] = (told, signs, asked)
            if told[5] is None:
                self.note(top, told, signs, asked)
                waiting.pop()
            elif told[5] in begun:
                # It waits for itself, and so do all the others that wait for it.
                for each in waiting:
                    self._known[each] = (("never",), None)
                waiting = []
            else:
                begun[told[5]] = self.entered(told[5])
                if told[5] not in self._known:
                    waiting.append(told[5])

    def known(self, row):
        """Return the tuple of the value and the rank of a row."""
        if row not in self._known:
            told, signs, asked = self.entered(row)
            if told[5] is not None:
                self.work_out(row, told, signs, asked)
        return self._known[row]

    def traced(self, row):
        """Return how far reading goes for the value of a row, and the list of the rows that are asked, in order."""
        told, signs = self.opened(row)
        asked = []
        return self.finish(told, signs, row[2] is None, asked), asked

    def reading(self, state, hand, signs, is_end, asked):
        """Return how far signs are read from a stand, and the end of the path if is_end; append to asked as finish."""
        kind = "on" if state in self.starts else "settled"
        return self.finish((kind, state, hand, 0, 0, None), signs, is_end, asked)

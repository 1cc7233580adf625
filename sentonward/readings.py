"""Reading paths once, from left to right, with at most two segments in hand: [20] to [23]."""

from sentonward.kinds import is_integer
from sentonward.rules import matched, sent

HAND = 2


def numbered(signs, named):
    """Return signs with integers in the place of those that are not named, and the list of these.

    The integers are 1, 2, .. in the order of their first occurrences.
    """
    held = []
    told = []
    for sign in signs:
        if sign in named:
            told.append(sign)
        else:
            if sign not in held:
                held.append(sign)
            told.append(held.index(sign) + 1)
    return tuple(told), held


def restored(signs, held):
    """Return signs with the held ones in the place of the integers: the way back from numbered."""
    return tuple([held[sign - 1] if is_integer(sign) else sign for sign in signs])


class Trace:
    """How far signs have been read: at a stand, or to an end of reading.

    ending is "on", "settled" or "never". front is what is in hand, or the settled beginning. If a
    row that is asked never settles, the trace stays where it has been asked.
    """

    def __init__(self, ending, place, front, signs):
        self.ending = ending
        self.place = place
        self.front = front
        self.signs = signs
        self.at = 0
        self.steps = 0
        self.rank = 0
        self.asked = []

    def sign(self):
        """Return the sign that is read next, or None if all of them have been read."""
        return self.signs[self.at] if self.at < len(self.signs) else None

    def row(self):
        """Return the state, the hand and the sign that is read next, as they are."""
        return self.place, self.front, self.sign()

    def unread(self):
        """Return the signs that have not been read."""
        return self.signs[self.at:]


class Reader:
    """What reads paths for a list of rules; it keeps the values of the rows that have been asked."""

    def __init__(self, rules):
        self.starts = {}
        self.named = {}
        self._known = {}
        for rule in rules:
            self.starts.setdefault(rule.state, []).append(rule)
            for word in rule.words:
                self.named[word] = True

    def begun(self, state, hand, signs):
        """Return the trace of signs that are to be read behind a hand."""
        return Trace("on" if state in self.starts else "settled", state, hand, signs)

    def opened(self, state, signs, is_end):
        """Return the trace of what the first rule that fits makes of the first signs of a path."""
        for rule in self.starts[state]:
            holes = matched(rule, signs, is_end)
            if holes is not None:
                if rule.goal is None:
                    break
                trace = self.begun(rule.goal[0], (), sent(rule, signs, holes))
                trace.steps = 1
                return trace
        return Trace("settled", state, (), signs)

    def opened_row(self, row):
        """Return the trace with which the value of a row begins."""
        state, hand, sign = row
        return self.opened(state, hand if sign is None else (*hand, sign), sign is None)

    def row_of(self, state, hand, sign):
        """Return the row of a stand and what is read next, and what its integers stand for."""
        if sign is None:
            signs, held = numbered(hand, self.named)
            return (state, signs, None), held
        signs, held = numbered((*hand, sign), self.named)
        return (state, signs[:-1], signs[-1]), held

    def follow(self, trace, is_end):
        """Read on until reading ends or a row is asked that is not known; return this row or None."""
        while trace.ending == "on":
            sign = trace.sign()
            if sign is None and not is_end:
                return None
            if sign is not None and len(trace.front) < HAND:
                trace.front = (*trace.front, sign)
                trace.at += 1
                continue
            row, held = self.row_of(trace.place, trace.front, sign)
            if row not in self._known:
                return row
            trace.asked.append(row)
            self.answer(trace, row, held)
        return None

    def answer(self, trace, row, held):
        """Lead a trace on by the known value of the row that it asks."""
        value, rank = self._known[row]
        trace.ending = value[0]
        if value[0] == "never":
            return
        trace.place = value[1]
        trace.front = restored(value[2], held)
        trace.steps += value[3]
        if rank >= trace.rank:
            trace.rank = rank + 1
        if row[2] is not None:
            trace.at += 1

    def finish(self, trace, is_end):
        """Read on until reading ends or all signs are read."""
        row = self.follow(trace, is_end)
        while row is not None:
            self.work_out(row)
            row = self.follow(trace, is_end)

    def work_out(self, row):
        """Find the value and the rank of a row, and first those of the rows on which it rests.

        The rank is the height: 0 if no row is asked, else one more than the greatest one asked.
        """
        waiting = [row]
        traces = {row: self.opened_row(row)}
        while waiting:
            top = waiting[-1]
            wanted = self.follow(traces[top], top[2] is None)
            if wanted is None:
                self._known[top] = told_by(traces[top])
                waiting.pop()
            elif wanted in traces:
                # It waits for itself, and so do all the others that wait for it.
                for each in waiting:
                    self._known[each] = (("never",), None)
                waiting = []
            else:
                waiting.append(wanted)
                traces[wanted] = self.opened_row(wanted)

    def known(self, row):
        """Return the tuple of the value and the rank of a row."""
        if row not in self._known:
            self.work_out(row)
        return self._known[row]

    def traced(self, row):
        """Return the finished trace of the signs that are read for the value of a row."""
        trace = self.opened_row(row)
        self.finish(trace, row[2] is None)
        return trace

    def reading(self, state, hand, signs, is_end):
        """Return the trace of reading signs from a stand, and the end of the path if is_end."""
        trace = self.begun(state, hand, signs)
        self.finish(trace, is_end)
        return trace


def told_by(trace):
    """Return the value and the rank of the row that a finished trace belongs to."""
    if trace.ending == "never":
        return ("never",), None
    return (trace.ending, trace.place, trace.front + trace.unread(), trace.steps), trace.rank

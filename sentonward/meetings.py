"""Which rows are asked on the way of a run, and which rules fit first there: [12], [22]."""

from sentonward.reaching import reached
from sentonward.readings import signs_in
from sentonward.rules import matched


def first_rule(rules, row):
    """Return the index of the first rule that fits the addresses of a row, or None."""
    state, _, sign = row
    signs = signs_in(row)
    for index, rule in enumerate(rules):
        if rule.state == state and matched(rule.pattern, rule.is_exact, signs, sign is None) is not None:
            return index
    return None


def all_asking(reader, rows, wanted):
    """Return a dict of the wanted ones among rows and of all that ask for them, directly or through others."""
    before = {}
    for row in rows:
        for other in reader.traced(row)[1]:
            before.setdefault(other, []).append(row)
    return {row: True for row in reached(wanted, before)}


def all_asked(reader, rows):
    """Return the list of some rows and of all that are asked for them, directly or through others."""
    known = {row: True for row in rows}
    queue = list(known)
    done = 0
    while done < len(queue):
        asked = reader.traced(queue[done])[1]
        done += 1
        for row in asked:
            if row not in known:
                known[row] = True
                queue.append(row)
    return queue


def rules_met(book, address):
    """Return the list of the indexes, ascending, of the rules that fit first somewhere in the run of an address."""
    reader = book.reader()
    asked = []
    reader.reading(address.state, (), address.path, True, asked)
    told = [first_rule(book.rules, row) for row in all_asked(reader, asked)]
    return sorted(set([index for index in told if index is not None]))

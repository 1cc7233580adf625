"""Runs followed step by step, as [11] to [15] say it: what the tests compare the program with.

It takes addresses as tuples of a state and a path, and is written without the package's own matching.
"""

import itertools


def plain(system):
    """Return a list of lists of rules, as tuples, one for each book of a system."""
    books = system.books if hasattr(system, "books") else [system]
    return [[(rule.state, rule.pattern, rule.goal, rule.is_exact) for rule in book.rules] for book in books]


def fits(rule, address):
    """Return whether a rule, as a tuple, fits an address, as a tuple."""
    state, pattern, _, is_exact = rule
    path = address[1]
    if state != address[0] or len(path) < len(pattern) or is_exact and len(path) > len(pattern):
        return False
    for one, first in enumerate(pattern):
        if isinstance(first, str) and path[one] != first:
            return False
        for other in range(one):
            if pattern[other] == first and path[other] != path[one]:
                return False
    return True


def following(rules, address):
    """Return the next address, or None if the address settles at once."""
    for rule in rules:
        if fits(rule, address):
            if rule[2] is None:
                return None
            path = address[1]
            goal, beginning = rule[2]
            made = tuple(path[rule[1].index(entry)] if isinstance(entry, int) else entry for entry in beginning)
            return goal, made + path[len(rule[1]):]
    return None


def end(books, address, most=3000, widest=400):
    """Follow a run through books; return (end, steps), None if it loops, or "long" if it is given up."""
    steps = 0
    for rules in books:
        seen = {address}
        while True:
            sent = following(rules, address)
            if sent is None:
                break
            if sent in seen:
                return None
            steps += 1
            if steps > most or len(sent[1]) > widest:
                return "long"
            seen.add(sent)
            address = sent
    return address, steps


def paths(words, most):
    """Return a list of all paths of up to so many segments, the shorter ones first."""
    return [path for many in range(most + 1) for path in itertools.product(words, repeat=many)]


def first(rules, address):
    """Return the index of the first rule, as a tuple, that fits an address, or None."""
    for index, rule in enumerate(rules):
        if fits(rule, address):
            return index
    return None


def run(rules, address, most=60):
    """Return the addresses of a run, up to one that occurs again, at most so many."""
    told, seen = [], set()
    while address is not None and address not in seen and len(told) < most:
        told.append(address)
        seen.add(address)
        address = following(rules, address)
    return told

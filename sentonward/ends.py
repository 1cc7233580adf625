"""Where addresses end, and those that never do: [3], [14], [15], [23]."""

from sentonward.addresses import Address
from sentonward.books import Book, parts_of
from sentonward.errors import Unsettled
from sentonward.lasting import first_never, lasting_states
from sentonward.readings import HAND, place_in, restored, signs_in
from sentonward.stands import Graph, first_lost
from sentonward.views import fed, opening, spare_word, team_of


def end_of(system, address):
    """Return the end of an address and its number of steps, or None if it never settles."""
    view, steps = fed(team_of(system), opening(address.state), address.path, True)
    if view[0] == "never":
        return None
    return Address(view[2], view[3]), steps


def last_of(system, address):
    """Return the end of an address."""
    told = end_of(system, address)
    if told is None:
        raise Unsettled(address)
    return told[0]


def spelled_row(book, row):
    """Return the address of the signs of a row, with a new word for each integer."""
    words = []
    for _ in range(HAND + 1):
        words.append(spare_word(book.words, words))
    return Address(row[0], restored(signs_in(row), words))


def never_settles(system):
    """Return a shortest address that never settles, or None if all addresses settle."""
    if isinstance(system, Book):
        row = first_never(system)
        return None if row is None else spelled_row(system, row)
    if all([len(lasting_states(part.rules)) == 0 for part in parts_of(system)]):
        return None
    return first_lost(Graph(system))


def downwards(lefts):
    """Return the tuple of all segments that are left, those that were left last standing first."""
    return tuple([word for left in lefts[::-1] for word in left])


def ring(book, address):
    """Return what comes again and again in the run of an address, or None if the address settles.

    A row that never settles asks one that never settles, and what stands behind the signs of such a
    row is never read. So the same row comes again, with more behind its signs, or with the same.
    """
    reader = book.reader()
    signs = address.path
    told = reader.reading(address.state, (), signs, True, [])
    if told[0] != "never":
        return None
    seen = {}
    lefts = []
    row = place_in(told, signs)
    while row not in seen:
        seen[row] = len(lefts)
        lefts.append(signs[told[3] + 1:])
        told, signs = reader.opened(row)
        told = reader.finish(told, signs, row[2] is None, [])
        row = place_in(told, signs)
    lefts.append(signs[told[3] + 1:])
    at = seen[row]
    first = Address(row[0], signs_in(row) + downwards(lefts[:at + 1]))
    return first, downwards(lefts[at + 1:])

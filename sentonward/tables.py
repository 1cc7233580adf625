"""Rows of a book, their values, and tables that certify the values: [20] to [24]."""

from sentonward.errors import UnknownRow
from sentonward.kinds import is_integer, is_same
from sentonward.readings import HAND


def next_signs(words, signs):
    """Return the list of what may stand behind numbered signs: words, integers and one new integer."""
    last = 0
    for sign in signs:
        if is_integer(sign) and sign > last:
            last = sign
    return list(words) + list(range(1, last + 2))


def hands(words):
    """Return the list of all numbered tuples of at most two signs, the shorter ones first."""
    short = [(sign,) for sign in next_signs(words, ())]
    long = [(*hand, sign) for hand in short for sign in next_signs(words, hand)]
    return [(), *short, *long]


def rows(book):
    """Return the list of all rows of a book, in their order."""
    words = book.words
    ends = [(hand, None) for hand in hands(words) if len(hand) < HAND]
    whole = [hand for hand in hands(words) if len(hand) == HAND]
    pairs = ends + [(hand, sign) for hand in whole for sign in [*next_signs(words, hand), None]]
    starts = sorted(set([rule.state for rule in book.rules]))
    return [(state, hand, sign) for state in starts for hand, sign in pairs]


def are_numbered(signs, named):
    """Return whether each sign is a named word, or an integer, where these are numbered."""
    last = 0
    for sign in signs:
        if is_integer(sign):
            if not 1 <= sign <= last + 1:
                return False
            if sign > last:
                last = sign
        elif not isinstance(sign, str) or sign not in named:
            return False
    return True


def is_row(book, value):
    """Return whether any value is a row of a book."""
    if not isinstance(value, tuple) or len(value) != 3:
        return False
    reader = book.reader()
    state, hand, sign = value
    if not isinstance(state, str) or state not in reader.starts:
        return False
    if not isinstance(hand, tuple) or len(hand) > HAND:
        return False
    if sign is None:
        return are_numbered(hand, reader.named)
    return len(hand) == HAND and are_numbered((*hand, sign), reader.named)


def value_of(book, row):
    """Return the value of a row."""
    if not is_row(book, row):
        raise UnknownRow(row)
    return book.reader().known(row)[0]


def table(book):
    """Return a correct table: a dict of all rows with their values and ranks."""
    reader = book.reader()
    return {row: reader.known(row) for row in rows(book)}


def asked(book, row):
    """Return the list of the rows that are asked for the value of a row."""
    if not is_row(book, row):
        raise UnknownRow(row)
    return book.reader().traced(row)[1]


def is_rank(reader, value, row):
    """Return whether a row has the right rank in a dict of rows that has the right values."""
    rank = value[row][1]
    if reader.known(row)[0][0] == "never":
        return rank is None
    if not is_integer(rank) or rank < 0:
        return False
    ranks = [value[each][1] for each in reader.traced(row)[1]]
    return all([is_integer(each) and each < rank for each in ranks])


def is_table(book, value):
    """Return whether any value is a correct table of a book."""
    if not isinstance(value, dict) or len(value) != len(rows(book)):
        return False
    reader = book.reader()
    for row, entry in value.items():
        if not is_row(book, row) or not isinstance(entry, tuple) or len(entry) != 2:
            return False
        if not is_same(entry[0], reader.known(row)[0]):
            return False
    return all([is_rank(reader, value, row) for row in rows(book)])

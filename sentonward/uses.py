"""What the rules of a book are for, and which addresses meet a rule or pass a state: [13], [14], [30]."""

from sentonward.addresses import Address
from sentonward.books import Book
from sentonward.comparing import are_alike
from sentonward.errors import OutOfRange
from sentonward.kinds import is_index
from sentonward.meetings import all_asking, first_rule
from sentonward.tables import rows
from sentonward.views import Joint, Search


def dead(book):
    """Return the tuple of the indexes of all rules that are not the first fitting rule of any address."""
    first = {first_rule(book.rules, row): True for row in rows(book)}
    return tuple([index for index in range(len(book)) if index not in first])


def needless(book):
    """Return the tuple of the indexes of all rules without which, one by one, the book is equivalent to itself."""
    return tuple([index for index in range(len(book)) if are_alike(book, book.without(index))])


def exchanged(book, index):
    """Return a new book in which a rule and the next one have changed places."""
    rules = list(book.rules)
    rules[index], rules[index + 1] = rules[index + 1], rules[index]
    return Book(*rules)


def exchangeable(book):
    """Return the tuple of the indexes of all rules that change nothing by changing places with the next one."""
    return tuple([index for index in range(len(book) - 1) if are_alike(book, exchanged(book, index))])


def leading_sign(joint, reader, views, hits):
    """Return the first sign with which a row of hits is asked from views, or None."""
    _, _, state, hand = views[0]
    for sign in joint.next_signs(views):
        if reader.row_of(state, hand, sign)[0] in hits:
            return sign
    return None


def shortest_through(book, states, hits):
    """Return a shortest address with one of some states whose reading asks one of the rows in hits, or None."""
    joint = Joint(book)
    reader = book.reader()
    search = Search(joint, [state for state in states if state in reader.starts])
    done = 0
    while done < len(search.nodes):
        # What is found with the same number of segments is looked at together.
        layer = [at for at in range(done, len(search.nodes)) if search.nodes[at][0][0] == "on"]
        done = len(search.nodes)
        for at in layer:
            _, _, state, hand = search.nodes[at][0]
            if reader.row_of(state, hand, None)[0] in hits:
                return search.address_of(at)
        for at in layer:
            sign = leading_sign(joint, reader, search.nodes[at], hits)
            if sign is not None:
                state, signs = search.route(at)
                return Address(state, joint.spelled(joint.begun(state), signs + [sign])[0])
            search.widen(at)
    return None


def met(book, index, states):
    """Return a shortest address with one of some states in whose run a rule is the first that fits, or None."""
    if not is_index(index, len(book)):
        raise OutOfRange(index)
    every = rows(book)
    wanted = [row for row in every if first_rule(book.rules, row) == index]
    return shortest_through(book, states, all_asking(book.reader(), every, wanted))


def is_passing(reader, row, state):
    """Return whether a state is that of a row, or the one to which the row itself leads."""
    return row[0] == state or reader.traced(row)[0][1] == state


def passed(book, states, state):
    """Return a shortest address with one of some states in whose run a state occurs, or None."""
    if state in states:
        return Address(state)
    every = rows(book)
    reader = book.reader()
    wanted = [row for row in every if is_passing(reader, row, state)]
    return shortest_through(book, states, all_asking(reader, every, wanted))

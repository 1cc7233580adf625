"""Desks: lines about a site, and their answers: [51]."""

from sentonward.addresses import Address
from sentonward.ends import end_of, never_settles
from sentonward.errors import Barred, CommandError, InvalidText, TooMany, Unsettled
from sentonward.flat import flat
from sentonward.kinds import number_in
from sentonward.longest import longest
from sentonward.rules import Rule, parsed
from sentonward.uses import dead, needless

INDEX_DIGITS = 30


def put_rule(site, index, rule):
    """Insert a rule."""
    site.insert(index, rule)
    return "ok"


def set_rule(site, index, rule):
    """Put a rule in the place of another one."""
    site[index] = rule
    return "ok"


def drop_rule(site, index):
    """Remove a rule."""
    site.take(index)
    return "ok"


def undo_edit(site):
    """Undo an edit."""
    site.undo()
    return "ok"


def redo_edit(site):
    """Redo an edit."""
    site.redo()
    return "ok"


def book_text(site):
    """Return the text of the book."""
    return site.book.text() if len(site) > 0 else "-"


def end_text(site, address):
    """Return the end of an address and its number of steps."""
    told = end_of(site.book, address)
    return "never" if told is None else f"{told[0].text()} {told[1]}"


def address_text(address):
    """Return the text of an address, where there is one."""
    return "-" if address is None else address.text()


def next_text(site, address):
    """Return the next address."""
    return address_text(site.book.after(address))


def first_text(site, address):
    """Return the index of the first rule that fits an address."""
    index = site.book.first(address)
    return "-" if index is None else str(index)


def never_text(site):
    """Return a shortest address that never settles."""
    return address_text(never_settles(site.book))


def longest_text(site):
    """Return the number of steps of the longest run."""
    told = longest(site.book)
    return f"most {told[1]}" if told[0] == "most" else "more"


def indexes_text(indexes):
    """Return indexes, separated by spaces."""
    return " ".join([str(index) for index in indexes]) if len(indexes) > 0 else "-"


def dead_text(site):
    """Return the indexes of the dead rules."""
    return indexes_text(dead(site.book))


def needless_text(site):
    """Return the indexes of the needless rules."""
    return indexes_text(needless(site.book))


def flat_text(site):
    """Return whether there is a flat list, or why there is none."""
    try:
        flat(site.book)
    except Unsettled:
        return "never"
    except Barred:
        return "barred"
    except TooMany:
        return "many"
    return "ok"


# The functions that answer, by the first words of the lines and by what stands behind these.
ALONE = {
    "undo": undo_edit, "redo": redo_edit, "book": book_text, "never": never_text, "longest": longest_text,
    "dead": dead_text, "needless": needless_text, "flat": flat_text,
}
WITH_ADDRESS = {"end": end_text, "next": next_text, "rule": first_text}
WITH_INDEX = {"drop": drop_rule}
WITH_RULE = {"put": put_rule, "set": set_rule}


def index_of(word):
    """Return the index that a word tells, or None if it tells none."""
    return number_in(word, INDEX_DIGITS)


def address_of(word):
    """Return the address that a word tells, or None if it tells none."""
    try:
        return Address.read(word)
    except InvalidText:
        return None


def request_of(words):
    """Return the tuple (action, operands) of the words of a line without try, or None if it is no such line."""
    verb = words[0] if words else ""
    if verb in ALONE and len(words) == 1:
        return ALONE[verb], ()
    if verb in WITH_ADDRESS and len(words) == 2:
        address = address_of(words[1])
        return None if address is None else (WITH_ADDRESS[verb], (address,))
    if verb in WITH_INDEX and len(words) == 2:
        index = index_of(words[1])
        return None if index is None else (WITH_INDEX[verb], (index,))
    if verb in WITH_RULE and len(words) > 2:
        index = index_of(words[1])
        text = " ".join(words[2:])
        # A line without the form of a rule is no line, before a rule of this form can be a wrong one.
        return None if index is None or parsed(text, False) is None else (WITH_RULE[verb], (index, Rule.read(text)))
    return None


class Desk:
    """What answers lines about a site."""

    def __init__(self, site):
        self._site = site

    @property
    def site(self):
        """The site itself."""
        return self._site

    def run(self, line):
        """Return the answer of a line."""
        words = line.split(" ") if isinstance(line, str) else []
        is_tried = words[:1] == ["try"]
        request = request_of(words[1:] if is_tried else words)
        if request is None:
            raise CommandError(line)
        action, operands = request
        if is_tried:
            return self._site.tried(lambda held: action(held, *operands))
        return action(self._site, *operands)

    def __call__(self, line):
        """Return the answer of a line."""
        return self.run(line)


def run_all(desk, lines):
    """Return the list of the answers of lines."""
    return [desk.run(line) for line in lines]


def answers(site, lines):
    """Return the list of the answers of a new desk to lines, as one attempt of the site."""
    return site.attempt(lambda held: run_all(Desk(held), lines))

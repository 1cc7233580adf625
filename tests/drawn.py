"""Books, rules and addresses that are drawn, the same ones each time, and some books made by hand."""

import random

from sentonward.addresses import Address
from sentonward.books import Book, Chain
from sentonward.errors import TooMany
from sentonward.rules import Rule

STATES = ("s", "t", "u", "v")
WORDS = ("a", "b", "c", "d")
OTHERS = ("x", "y")


def drawn_rule(rng, states, words):
    """Return a drawn rule over some states and words."""
    pattern = tuple(rng.choice((1, 1, 2, 2, *words)) for _ in range(rng.choice((0, 1, 1, 2, 2, 2))))
    is_exact = rng.random() < 0.2
    if rng.random() < 0.15:
        return Rule(rng.choice(states), pattern, is_exact=is_exact)
    holes = [entry for entry in pattern if isinstance(entry, int)]
    many = rng.choice((0, 0, 1, 1, 1, 2, 2, 3, 4))
    entries = (*words, *holes, *holes)
    beginning = [rng.choice(entries) for _ in range(many)] if entries else []
    return Rule(rng.choice(states), pattern, (rng.choice(states), beginning), is_exact=is_exact)


def drawn_book(seed, states=3, words=2, rules=6):
    """Return a drawn book with at most so many states, words and rules."""
    rng = random.Random(f"book {seed} {states} {words} {rules}")
    return Book.of([
        drawn_rule(rng, STATES[:rng.randint(1, states)], WORDS[:rng.randint(0, words)])
        for _ in range(rng.randint(1, rules))
    ])


def drawn_chain(seed, books, states=3, words=2, rules=4):
    """Return a drawn chain of so many books."""
    return Chain.of([drawn_book(f"{seed} {at}", states, words, rules) for at in range(books)])


def address(text):
    """Return the address with a text."""
    return Address.read(text)


def book(*texts):
    """Return the book of the rules with these texts."""
    return Book.read("\n".join(texts))


def changed_books(seed, rules, many):
    """Return some books that are made of a list of rules by one change each."""
    rng = random.Random(f"changes {seed}")
    states = sorted({rule.state for rule in rules}) or ["s"]
    words = sorted({word for rule in rules for word in rule.words})
    made = []
    while len(made) < many:
        other = list(rules)
        at = rng.randrange(len(other) + 1)
        if rng.random() < 0.5 or at == len(other):
            other.insert(at, drawn_rule(rng, states, words))
        elif rng.random() < 0.5:
            other[at] = drawn_rule(rng, states, words)
        else:
            del other[at]
        try:
            made.append(Book.of(other))
        except TooMany:
            continue
    return made


DROP = Book(Rule("s", (1, 1), ("t", (1,))), Rule("s", (1, 2), ("s", (1,))))

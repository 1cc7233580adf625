"""The cheapest rules to remove so that every address ends, and bars against cheaper ones: [41]."""

from sentonward.addresses import Address
from sentonward.ends import end_of, never_settles
from sentonward.errors import InvalidPrices
from sentonward.kinds import is_index, is_integer
from sentonward.limits import PRICED
from sentonward.meetings import rules_met

MOST_PRICE = 10 ** 30


def is_price(value):
    """Return whether value is an integer from 1 to the greatest price."""
    return is_integer(value) and 1 <= value <= MOST_PRICE


def check_prices(book, value):
    """Raise an error for any value that is not a dict of prices of rules of a book."""
    if not isinstance(value, dict) or len(value) > PRICED:
        raise InvalidPrices(value)
    if not all([is_index(index, len(book)) and is_price(price) for index, price in value.items()]):
        raise InvalidPrices(value)


def choices(prices):
    """Return the list of all tuples (cost, choice), the cheaper ones first."""
    told = [(0, ())]
    for index in sorted(set(list(prices))):
        told = told + [(cost + prices[index], (*choice, index)) for cost, choice in told]
    return sorted(set(told))


def mends(book, choice):
    """Return whether all addresses settle in a book without the rules of a choice."""
    return never_settles(book.without(*choice)) is None


def rules_kept(book, struck, address):
    """Return the tuple of the indexes of the rules that a run meets in a book without the struck rules."""
    left = [index for index in range(len(book)) if index not in struck]
    return tuple([left[index] for index in rules_met(book.without(*struck), address)])


def bar_against(book, choice):
    """Return a bar against a choice, or None if the choice mends the book."""
    address = never_settles(book.without(*choice))
    if address is None:
        return None
    return address, rules_kept(book, choice, address), choice


def is_barring(bar, choice):
    """Return whether a bar bars a choice."""
    _, kept, struck = bar
    return all([index in choice for index in struck]) and not any([index in choice for index in kept])


def is_barred(told, choice):
    """Return whether one of some bars bars a choice."""
    return any([is_barring(bar, choice) for bar in told])


def cheapest(book, prices):
    """Return the tuple (cost, choice) of a cheapest choice that mends a book, or None."""
    check_prices(book, prices)
    found = []
    for cost, choice in choices(prices):
        if not is_barred(found, choice):
            bar = bar_against(book, choice)
            if bar is None:
                return cost, choice
            found.append(bar)
    return None


def bars(book, prices, cost):
    """Return a list of bars against all choices that cost less, or None if one of these mends the book."""
    check_prices(book, prices)
    found = []
    for price, choice in choices(prices):
        if price < cost and not is_barred(found, choice):
            bar = bar_against(book, choice)
            if bar is None:
                return None
            found.append(bar)
    return found


def are_indexes(value, many):
    """Return whether value is an ascending tuple of different indexes below many."""
    if not isinstance(value, tuple) or not all([is_index(index, many) for index in value]):
        return False
    return all([one < other for one, other in zip(value, value[1:])])


def is_bar(book, prices, value):
    """Return whether any value is a bar."""
    if not isinstance(value, tuple) or len(value) != 3:
        return False
    address, kept, struck = value
    if not isinstance(address, Address) or not are_indexes(kept, len(book)) or not are_indexes(struck, len(book)):
        return False
    if not all([index in prices for index in struck]) or end_of(book.without(*struck), address) is not None:
        return False
    return all([index in kept for index in rules_kept(book, struck, address)])


def is_bars(book, prices, cost, value):
    """Return whether any value is a list of bars against all choices that cost less."""
    check_prices(book, prices)
    if not isinstance(value, list) or not all([is_bar(book, prices, bar) for bar in value]):
        return False
    return all([is_barred(value, choice) for price, choice in choices(prices) if price < cost])

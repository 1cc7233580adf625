"""The limits of rules, books, flat lists and prices."""

RULES = 12
STATES = 6
WORDS = 6
PATTERN = 2
BEGINNING = 4
READINGS = 100
PRICED = 6

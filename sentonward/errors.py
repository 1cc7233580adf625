"""The errors of the package; each keeps exactly the value that it is created with."""


class InvalidAddress(ValueError):
    """The state or another part of an address is not as described."""

    def __init__(self, field):
        self.field = field


class InvalidRule(ValueError):
    """An argument of a rule is not as described."""

    def __init__(self, field):
        self.field = field


class InvalidText(ValueError):
    """A text does not have the form that is read."""

    def __init__(self, index):
        self.index = index


class InvalidWords(ValueError):
    """A value is not a list of 1 to 8 different words."""

    def __init__(self, value):
        self.value = value


class InvalidPrices(ValueError):
    """A value is not a dict of prices."""

    def __init__(self, value):
        self.value = value


class InvalidWish(ValueError):
    """An argument of a wish is not as described."""

    def __init__(self, field):
        self.field = field


class CommandError(ValueError):
    """A value is not a line that a desk answers."""

    def __init__(self, value):
        self.value = value


class Barred(ValueError):
    """No list of flat rules replaces the system, since there is no longest run."""

    def __init__(self, value):
        self.value = value


class Broken(ValueError):
    """A wish does not hold."""

    def __init__(self, index):
        self.index = index


class NotARule(TypeError):
    """A value in the place of a rule is none."""

    def __init__(self, index):
        self.index = index


class NotABook(TypeError):
    """A value in the place of a book is none."""

    def __init__(self, index):
        self.index = index


class NotAWish(TypeError):
    """A value in the place of a wish is none."""

    def __init__(self, index):
        self.index = index


class OutOfRange(LookupError):
    """A value is not an integer of the range that is asked for."""

    def __init__(self, value):
        self.value = value


class UnknownRow(LookupError):
    """A value is not a row of the book."""

    def __init__(self, value):
        self.value = value


class TooMany(OverflowError):
    """There are more than the limit allows."""

    def __init__(self, limit):
        self.limit = limit


class TooFew(OverflowError):
    """There are fewer than the limit asks for."""

    def __init__(self, limit):
        self.limit = limit


class TooFar(OverflowError):
    """An address takes more steps than a site allows."""

    def __init__(self, address):
        self.address = address


class Unsettled(RuntimeError):
    """An address never settles."""

    def __init__(self, address):
        self.address = address


class GoesOn(RuntimeError):
    """An edit of a site would leave an address that never settles."""

    def __init__(self, address):
        self.address = address


class InTrial(RuntimeError):
    """Nothing is undone or redone inside a trial."""

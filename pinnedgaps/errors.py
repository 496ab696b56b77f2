"""The errors that the package raises."""


class GapError(ValueError):
    """A value that is not what the package asks for; it takes a message."""


class InvalidLots(GapError):
    """No weighted lots, or no lot."""


class InvalidPin(GapError):
    """No pin, or no pins."""


class InvalidTable(GapError):
    """No table."""


class InvalidRow(GapError):
    """No row of numbers, or no row of states."""


class InvalidField(GapError):
    """No field, or no weights of a field."""


class InvalidOrder(GapError):
    """No order that can be used here."""


class InvalidPledge(GapError):
    """No pledge."""


class InvalidOperation(GapError):
    """Something that cannot be done with what was passed."""


class ParseError(GapError):
    """A text that cannot be read; it keeps the spot."""

    def __init__(self, spot):
        GapError.__init__(self, "the text cannot be read")
        self.spot = spot


class InvalidNumber(IndexError):
    """A number that is none, or that is out of bounds; it keeps what was given."""

    def __init__(self, given):
        IndexError.__init__(self, "the number is not one that can be used here")
        self.given = given


class UnknownName(KeyError):
    """A name that nothing has; it keeps the name."""

    def __init__(self, name):
        KeyError.__init__(self, "nothing has this name")
        self.name = name


class NothingToUndo(RuntimeError):
    """Fewer changes than were to be taken back or done again; it keeps how many were wanted."""

    def __init__(self, wanted):
        RuntimeError.__init__(self, "there are fewer changes")
        self.wanted = wanted


class TooMany(OverflowError):
    """More than there may be; it keeps the limit."""

    def __init__(self, limit):
        OverflowError.__init__(self, "there would be more than the limit")
        self.limit = limit


class Refused(ArithmeticError):
    """Something that does not hold; it keeps the reason."""

    def __init__(self, reason):
        ArithmeticError.__init__(self, "this is refused for a reason")
        self.reason = reason

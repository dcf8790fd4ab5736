"""All errors that the package raises."""


class DeckError(ValueError):
    """The base class of all errors of the package."""


class SyntaxFault(DeckError):
    """A text is no deck; line and column count from 0."""

    def __init__(self, line, column):
        super().__init__(f"no valid syntax at line {line}, column {column}")
        self.line = line
        self.column = column


class CheckFault(DeckError):
    """A deck violates a limit; line and column count from 0."""

    def __init__(self, reason, line, column):
        super().__init__(f"fault '{reason}' at line {line}, column {column}")
        self.reason = reason
        self.line = line
        self.column = column


class InvalidState(DeckError):
    """A value is no state of the deck."""


class InvalidCount(DeckError):
    """A value is no integer within the limits of a number or a position."""


class TooLong(DeckError):
    """The states of a deck do not repeat early enough."""


class UnknownCard(DeckError):
    """A deck has no card with this name."""


class TooManyOrders(DeckError):
    """A deck has too many cards for a hidden order."""


class InvalidValues(DeckError):
    """A value is no list of values that a deck can emit."""


class InvalidValue(DeckError):
    """A value is none that a register can have."""


class Contradiction(DeckError):
    """No order agrees with all observations."""


class InvalidCode(DeckError):
    """A list of bytes encodes no deck; place counts from 0."""

    def __init__(self, place):
        super().__init__(f"invalid code at place {place}")
        self.place = place


class InvalidRegister(DeckError):
    """A value is no letter of a register."""


class InvalidName(DeckError):
    """A value cannot be the name of a snapshot."""


class UnknownName(DeckError):
    """There is no snapshot with this name."""


class InvalidOperation(DeckError):
    """A list of operations has a malformed or failing entry; place counts from 0."""

    def __init__(self, place):
        super().__init__(f"invalid operation at place {place}")
        self.place = place


class InvalidSession(DeckError):
    """A line of a session is invalid; place counts from 0."""

    def __init__(self, place):
        super().__init__(f"invalid session at line {place}")
        self.place = place

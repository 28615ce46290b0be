"""The errors that the package raises."""


class SweepError(ValueError):
    """The base class of all errors of the package."""


class SyntaxFault(SweepError):
    """A plan breaks the rules for characters, tokens or the grammar."""

    def __init__(self, line, column):
        super().__init__(f"line {line}, column {column}")
        self.line = line
        self.column = column


class CheckFault(SweepError):
    """A plan that fits the grammar has an error of another kind."""

    def __init__(self, reason, line, column):
        super().__init__(f"{reason}: line {line}, column {column}")
        self.reason = reason
        self.line = line
        self.column = column


class InvalidTick(SweepError):
    """A value is not a tick, or not one that is allowed here."""


class InvalidNumber(SweepError):
    """A value is not a number that is allowed here."""


class UnknownSign(SweepError):
    """A value is not a sign of the plan."""


class TooLong(SweepError):
    """The situations of a plan do not repeat early enough."""


class OtherCorridor(SweepError):
    """Two plans have different tiles or signs."""


class Contradiction(SweepError):
    """No start would remain possible."""


class InvalidCode(SweepError):
    """A list of bytes is not that of a plan."""

    def __init__(self, place):
        super().__init__(f"place {place}")
        self.place = place


class InvalidName(SweepError):
    """A value is not a name for a snapshot."""


class UnknownName(SweepError):
    """There is no snapshot of this name."""


class InvalidOperation(SweepError):
    """An entry of a list of operations is malformed or fails."""

    def __init__(self, place):
        super().__init__(f"place {place}")
        self.place = place

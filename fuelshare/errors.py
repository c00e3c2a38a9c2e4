"""All errors that the package raises."""


class FuelError(ValueError):
    """The base class of all errors of the package."""


class SyntaxFault(FuelError):
    """A source violates the rules of tokens or the grammar."""

    def __init__(self, line, column):
        FuelError.__init__(self, f"the source does not fit the grammar at line {line}, column {column}")
        self.line = line
        self.column = column


class CheckFault(FuelError):
    """A source fits the grammar, but it names or counts something wrongly."""

    def __init__(self, reason, line, column):
        FuelError.__init__(self, f"{reason} at line {line}, column {column}")
        self.reason = reason
        self.line = line
        self.column = column


class InvalidArguments(FuelError):
    """The arguments are not one value for each parameter."""


class InvalidCells(FuelError):
    """The cells are not eight values."""


class InvalidFuel(FuelError):
    """An amount of fuel is not allowed."""


class InvalidShare(FuelError):
    """A share is not a fraction that is allowed."""


class Endless(FuelError):
    """A full run takes too many steps."""


class InvalidLimit(FuelError):
    """A limit of fuel is not allowed."""


class InvalidCode(FuelError):
    """A list of bytes is not the encoding of a source."""

    def __init__(self, offset):
        FuelError.__init__(self, f"the code is invalid at offset {offset}")
        self.offset = offset


class NoProcess(FuelError):
    """No process has this number."""


class InvalidSteps(FuelError):
    """A number of steps is not allowed."""


class InvalidName(FuelError):
    """A name is not allowed."""


class UnknownName(FuelError):
    """Nothing has this name."""


class InvalidOperation(FuelError):
    """An entry of a list of operations is malformed or fails."""

    def __init__(self, position):
        FuelError.__init__(self, f"the operation at position {position} is invalid")
        self.position = position


class InvalidSession(FuelError):
    """A text is not that of a session."""

    def __init__(self, line):
        FuelError.__init__(self, f"the session is invalid at line {line}")
        self.line = line

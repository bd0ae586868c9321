"""The errors that the functions of this package raise."""


class HoldError(ValueError):
    """The base class of all errors of this package."""


class Fault(HoldError):
    """A text that is no program: what is wrong, and in which line."""

    def __init__(self, line, reason):
        super().__init__(f"line {line}: {reason}")
        self.line = line
        self.reason = reason


class BadData(HoldError):
    """Something that is no data, or a value that a call does not take."""


class BadState(HoldError):
    """A call that a run does not take in its present state."""


class TooLong(HoldError):
    """A held run of more numbers than are allowed."""


class BadNumbers(HoldError):
    """A list that is no held run, and the index at which that shows."""

    def __init__(self, place):
        super().__init__(f"place {place}")
        self.place = place

"""The errors that the program raises."""


class CourtError(ValueError):
    """The base of all errors of the program."""


class TextFault(CourtError):
    """A text that is no text of a heap: the line that has the fault, from 1, and why."""

    def __init__(self, line, reason):
        super().__init__(f"line {line}: {reason}")
        self.line = line
        self.reason = reason


class CommandFault(CourtError):
    """A command that fails, and why."""

    def __init__(self, reason):
        super().__init__(reason)
        self.reason = reason

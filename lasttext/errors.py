"""The errors that the program raises."""


class LastTextError(ValueError):
    """The base class of all errors that the program raises."""


class Refused(LastTextError):
    """A call that is refused; `reason` tells why."""

    def __init__(self, reason):
        super().__init__(f"refused: {reason}")
        self.reason = reason


class BadProgram(LastTextError):
    """A text that is not that of a program; `line` is the number of its first wrong line."""

    def __init__(self, line):
        super().__init__(f"not a program: line {line}")
        self.line = line


class BadJournal(LastTextError):
    """A text that is not a journal; `line` is the number of its first wrong line."""

    def __init__(self, line):
        super().__init__(f"not a journal: line {line}")
        self.line = line

"""The errors of the package."""


class LitmusError(ValueError):
    """The base class of all errors of the package."""


class InvalidExecution(LitmusError):
    """An execution is not valid under a memory order."""

    def __init__(self, violation):
        super().__init__(f"the execution is not valid: {violation}")
        self.violation = violation


class TooManySituations(LitmusError):
    """An exploration finds more situations, or more traces, than its limit."""

    def __init__(self, limit):
        super().__init__(f"more than {limit} were found")
        self.limit = limit


class TooManySlots(LitmusError):
    """A program has more slots than can be filled."""

    def __init__(self, many):
        super().__init__(f"the program has {many} slots")
        self.many = many


class ActionNotPossible(LitmusError):
    """One of several actions is not possible after those before it."""

    def __init__(self, place):
        super().__init__(f"the action with the index {place} is not possible")
        self.place = place


class NotFinished(LitmusError):
    """A machine is asked for its outcome before it is finished."""


class TextError(LitmusError):
    """A text is no test; line and column tell where it goes wrong."""

    def __init__(self, line, column):
        super().__init__(f"line {line}, column {column}")
        self.line = line
        self.column = column

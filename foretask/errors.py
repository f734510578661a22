"""The errors that the functions of the interface raise, under one base."""


class ForetaskError(ValueError):
    """The base class of all errors that the program raises."""


class TextFault(ForetaskError):
    """A text is no program."""

    def __init__(self, line, column, reason):
        super().__init__(f"line {line}, column {column}: {reason}")
        self.line = line
        self.column = column
        self.reason = reason


class NameFault(ForetaskError):
    """A name of a program is used in a wrong way."""

    def __init__(self, line, reason):
        super().__init__(f"line {line}: {reason}")
        self.line = line
        self.reason = reason


class UnknownVariable(ForetaskError):
    """A string is the name of no variable of a program."""

    def __init__(self, name):
        super().__init__(f"no variable is called {name}")
        self.name = name


class NoSuchStep(ForetaskError):
    """A trace has no entry with a number."""

    def __init__(self, number):
        super().__init__(f"the trace has no step {number}")
        self.number = number


class BadImage(ForetaskError):
    """A row of integers is no image."""

    def __init__(self, place):
        super().__init__(f"the row is no image, at place {place}")
        self.place = place

"""The errors of the program."""


class LineError(ValueError):
    """The base class of all errors."""


class SourceError(LineError):
    """A source that cannot be read, or that has a problem, and where."""

    def __init__(self, line, column, message):
        super().__init__(f"line {line}, column {column}: {message}")
        self.line = line
        self.column = column
        self.message = message


class Problem(LineError):
    """A problem of an expression, a query or an item, before its place is known."""

    def __init__(self, message):
        super().__init__(message)
        self.message = message


class InvalidArgument(LineError):
    """An argument that breaks a rule, told by the name of its parameter."""

    def __init__(self, name):
        super().__init__(f"invalid argument: {name}")
        self.name = name


class NoSuchTable(LineError):
    """There is no table with the name."""


class NoSuchStep(LineError):
    """There is no step with the name, or none at all."""


class NoSuchEntry(LineError):
    """A number is not that of an input row."""


class NoSuchVersion(LineError):
    """There is no version with the number."""


class WrongRow(LineError):
    """A row does not fit the columns."""


class WrongNumberOfCosts(LineError):
    """There is not one cost for each input row."""


class WrongNumberOfChances(LineError):
    """There is not one chance for each input row."""


class TooManyRows(LineError):
    """A list of rows is beyond its limit."""


class TooManyQuestions(LineError):
    """The size of a condition is beyond its limit."""


class TooManyEntries(LineError):
    """There are as many input rows as there may be."""


class TooManyOperations(LineError):
    """There are as many operations to take back as there may be."""


class TooManyCases(LineError):
    """A condition has more cases than there may be."""


class TooManyReasons(LineError):
    """A condition has more reasons than there may be."""


class TooManyChanges(LineError):
    """A condition has more least changes than there may be."""

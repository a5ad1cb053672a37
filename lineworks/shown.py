"""Rows as a line takes and shows them: with True and False in columns of truth values."""

from lineworks.errors import WrongRow


def check_row(row, columns):
    """Raises an error unless a row has one value for each column that fits it."""
    if len(row) != len(columns):
        raise WrongRow("a row needs one value for each column")
    check_values(row, columns)


def check_values(values, columns):
    """Raises an error unless these may be the first values of a row."""
    if len(values) > len(columns):
        raise WrongRow("there are more values than columns")
    for value, (_, kind) in zip(values, columns):
        if value is not None and kind_of(value) != kind:
            raise WrongRow("a value is of another kind than its column")


def kind_of(value):
    """Returns the kind of the columns that a value fits."""
    # True and False are integers for Python.
    if isinstance(value, bool):
        return "truth"
    return "text" if isinstance(value, str) else "int"


def plain_row(row):
    """Returns a row with 1 and 0 for True and False."""
    return tuple([int(value) if isinstance(value, bool) else value for value in row])


def shown_row(row, columns):
    """Returns a row with True and False in columns of truth values."""
    return tuple([shown_value(value, kind) for value, (_, kind) in zip(row, columns)])


def shown_rows(rows, columns):
    return [shown_row(row, columns) for row in rows]


def shown_value(value, kind):
    if kind == "truth" and value is not None:
        return value == 1
    return value

"""Totals of lists of rows."""

from lineworks.values import bounded, evaluate, value_key


def total(form, rows):
    """Returns the value of a total for a list of rows."""
    word = form[0]
    if word == "count":
        return len(rows)
    values = [evaluate(form[1], row) for row in rows]
    known = [value for value in values if value is not None]
    if word == "distinct":
        return len({value for value in known})
    if word == "sum":
        return exact_sum(known)
    if word == "least":
        return min(known, key=value_key, default=None)
    return max(known, key=value_key, default=None)


def exact_sum(values):
    """Returns the sum of the integers, None if there are none or it is beyond the bound."""
    integers = [value for value in values if isinstance(value, int)]
    if not integers:
        return None
    return bounded(sum(integers))

"""Deciding rows: those rows of tables and steps that decide whether a row comes out."""

from lineworks.possible import possible_rows
from lineworks.queries import in_order, is_leaf
from lineworks.traces import reached_rows, traced


def deciding_rows(plan, tables, steps, row):
    """Returns the deciding rows of a row as a list of (is_step, index, row)."""
    trace = traced(plan, possible_rows(plan, tables, steps), [row])
    found = {}
    for at, operation in enumerate(plan):
        if is_leaf(operation):
            word, index = operation
            rows = found.setdefault((1 if word == "step" else 0, index), [])
            rows.extend(reached_rows(trace, at))
    deciding = []
    for is_step, index in sorted(found):
        deciding.extend([(is_step, index, other) for other in in_order(found[is_step, index])])
    return deciding

"""Possible rows: the rows that operations can have whichever of the input rows are there."""

from lineworks.queries import in_order, operands, operation_rows


def possible_rows(plan, tables, steps, *, most=500):
    """Returns for each operation of a plan its possible rows, or None if they are unknown."""
    found = []
    for operation in plan:
        found.append(operation_possible(operation, tables, steps, found, most))
    return found


def operation_possible(operation, tables, steps, found, most):
    """Returns the possible rows of an operation. Those of the operations before it are found."""
    word = operation[0]
    if word == "step":
        given = steps[operation[1]]
        return None if given is None else in_order(given)
    named = [found[at] for at in operands(operation)]
    if word in ("minus", "anti"):
        # Each row of the first operand comes out if all rows of the second one are missing.
        return None if named[0] is None else list(named[0])
    if None in named or has_totals(operation):
        return None
    rows = operation_rows(operation, tables, steps, found)
    if word in ("join", "union") and len(rows) > most:
        return None
    return rows


def has_totals(operation):
    """Returns whether an operation is a group with totals."""
    return operation[0] == "group" and len(operation[2]) > 0

"""Origins: the input rows that a row of a step comes from, and what plans use."""

from lineworks.possible import has_totals, possible_rows
from lineworks.queries import is_leaf, rows_of_tables
from lineworks.traces import reached_rows, traced


def origins(plans, entries, step, row):
    """Returns the numbers of the origins of a row of the step with this index, ascending."""
    possible = possible_of_steps(plans[:step + 1], rows_of_tables(plans, entries))
    # What is followed: rows of tables and steps, and tables and steps of which all rows count.
    followed = {("step", step): {row: True}}
    whole = {}
    # Steps use earlier ones: nothing more is followed in those that have been gone through.
    for at in reversed(range(step + 1)):
        if ("step", at) in whole:
            for operation in plans[at]:
                if is_leaf(operation):
                    whole[operation] = True
        elif ("step", at) in followed:
            follow_step(plans[at], possible[at], followed, whole, list(followed["step", at]))
    return sorted([number for number, table, entry_row in entries
                   if ("table", table) in whole or entry_row in followed.get(("table", table), {})])


def uses(plan):
    """Returns the indexes of the tables and of the steps that a plan uses, ascending."""
    tables = {operation[1]: True for operation in plan if operation[0] == "table"}
    steps = {operation[1]: True for operation in plan if operation[0] == "step"}
    return sorted(tables), sorted(steps)


def falling(plans):
    """Returns for each step whether it is falling."""
    known = []
    for plan in plans:
        known.append(not [operation for operation in plan if may_rise(operation, known)])
    return known


def may_rise(operation, known):
    """Returns whether an operation is not falling even if its operands are. The steps before are known."""
    word = operation[0]
    if word == "step":
        return not known[operation[1]]
    if word == "group":
        return has_totals(operation) or not operation[1]
    return word in ("minus", "anti")


def possible_of_steps(plans, tables):
    """Returns the possible rows of the operations of each step. Those of a step are those of its plan."""
    found = []
    for plan in plans:
        found.append(possible_rows(plan, tables, [rows[-1] for rows in found]))
    return found


def follow_step(plan, possible, followed, whole, rows):
    """Follows rows of a step in the tables and steps that its plan uses."""
    trace = traced(plan, possible, rows)
    for at, operation in enumerate(plan):
        if is_leaf(operation):
            if trace.whole[at]:
                whole[operation] = True
            reached = followed.setdefault(operation, {})
            for row in reached_rows(trace, at):
                reached[row] = True

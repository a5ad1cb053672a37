"""What is followed in a plan to find out what decides about its rows."""

from lineworks.queries import is_leaf, matches, operands, values_of
from lineworks.values import evaluate, is_true


class Trace:
    """Rows that are followed in the operations of a plan, and operations of which all rows count."""

    def __init__(self, plan, possible):
        self.plan = plan
        # The possible rows of each operation, None where they are unknown.
        self.possible = possible
        # Dicts of True, so that each row of each operation is followed only once.
        self.followed = [{} for _ in plan]
        self.whole = [False for _ in plan]

    def follow(self, at, row):
        """Follows a row of the operation with this index."""
        self.followed[at][row] = True

    def follow_all(self, at):
        """Takes all rows of the tables and steps that the operation with this index uses."""
        self.whole[at] = True


def traced(plan, possible, rows):
    """Returns the trace of rows of a plan. possible has the possible rows of its operations."""
    trace = Trace(plan, possible)
    for row in rows:
        trace.follow(len(plan) - 1, row)
    # Operations name earlier ones: nothing more is followed in those that have been gone through.
    for at in reversed(range(len(plan))):
        follow_operation(trace, at)
    return trace


def reached_rows(trace, at):
    """Returns the rows that are reached in an operation that is a table or a step."""
    known = trace.possible[at]
    if known is None:
        # Any row may be one of them.
        return list(trace.followed[at])
    if trace.whole[at]:
        return list(known)
    return [row for row in known if row in trace.followed[at]]


def follow_operation(trace, at):
    """Follows in its operands what is followed in an operation."""
    operation = trace.plan[at]
    if trace.whole[at]:
        for operand in operands(operation):
            trace.follow_all(operand)
    elif trace.followed[at] and not is_leaf(operation):
        action = OPERATIONS[operation[0]]
        action(trace, operation, list(trace.followed[at]))


def follow_filter(trace, operation, rows):
    _, condition, operand = operation
    for row in rows:
        if is_true(evaluate(condition, row)):
            trace.follow(operand, row)


def follow_map(trace, operation, rows):
    _, expressions, operand = operation
    follow_values(trace, expressions, operand, rows)


def follow_group(trace, operation, rows):
    _, keys, _, operand = operation
    follow_values(trace, keys, operand, [row[:len(keys)] for row in rows])


def follow_values(trace, expressions, operand, wanted):
    """Follows those possible rows of an operand whose tuples of values are wanted."""
    possible = trace.possible[operand]
    if possible is None:
        trace.follow_all(operand)
        return
    tuples = {values: True for values in wanted}
    for row in possible:
        if values_of(expressions, row) in tuples:
            trace.follow(operand, row)


def follow_join(trace, operation, rows):
    _, condition, first, second = operation
    firsts, seconds = trace.possible[first], trace.possible[second]
    if firsts is None or seconds is None:
        trace.follow_all(first)
        trace.follow_all(second)
        return
    heads = {row: True for row in firsts}
    tails = {row: True for row in seconds}
    width = len(firsts[0]) if firsts else 0
    for row in rows:
        head, tail = row[:width], row[width:]
        if head in heads and tail in tails and is_true(evaluate(condition, row)):
            trace.follow(first, head)
            trace.follow(second, tail)


def follow_both(trace, operation, rows):
    _, first, second = operation
    for row in rows:
        trace.follow(first, row)
        trace.follow(second, row)


def follow_anti(trace, operation, rows):
    _, condition, first, second = operation
    for row in rows:
        trace.follow(first, row)
    if trace.possible[second] is None:
        trace.follow_all(second)
        return
    for other in trace.possible[second]:
        if [row for row in rows if matches(condition, row, other)]:
            trace.follow(second, other)


OPERATIONS = {
    "filter": follow_filter,
    "map": follow_map,
    "join": follow_join,
    "union": follow_both,
    "minus": follow_both,
    "anti": follow_anti,
    "group": follow_group,
}

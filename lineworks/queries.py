"""Rows of queries."""

from lineworks.totals import total
from lineworks.values import evaluate, is_true, row_key


def query_rows(plan, tables, steps):
    """Returns the rows of a plan for given rows of the tables and of the earlier steps."""
    found = []
    for operation in plan:
        found.append(operation_rows(operation, tables, steps, found))
    return found[-1]


def step_rows(plans, entries, present):
    """Returns the rows of each step for the set of input rows with the numbers in a list."""
    tables = rows_of_tables(plans, [entry for entry in entries if entry[0] in present])
    steps = []
    for plan in plans:
        steps.append(query_rows(plan, tables, steps))
    return steps


def rows_of_tables(plans, entries):
    """Returns for each table the rows of its input rows, as they come."""
    tables = [[] for _ in range(table_count(plans, entries))]
    for _, table, row in entries:
        tables[table].append(row)
    return tables


def table_count(plans, entries):
    """Returns how many tables there have to be for the plans and for the input rows."""
    used = [table for _, table, _ in entries]
    for plan in plans:
        used.extend([operation[1] for operation in plan if operation[0] == "table"])
    return max(used, default=-1) + 1


def in_order(rows):
    """Returns the rows in their order, each once."""
    once = {row: True for row in rows}
    return sorted(once, key=row_key)


def values_of(expressions, row):
    """Returns the tuple of the values of expressions for a row."""
    return tuple([evaluate(expression, row) for expression in expressions])


def matches(condition, first, second):
    """Returns whether two rows match on the condition of a join."""
    return is_true(evaluate(condition, first + second))


def matches_any(condition, first, rows):
    """Returns whether a row matches at least one of some rows."""
    for row in rows:
        if matches(condition, first, row):
            return True
    return False


def is_leaf(operation):
    """Returns whether an operation is a table or a step."""
    return operation[0] in ("table", "step")


def operands(operation):
    """Returns the indexes of the operations that an operation names."""
    word = operation[0]
    if is_leaf(operation):
        return []
    if word in ("union", "minus"):
        return list(operation[1:])
    if word in ("join", "anti"):
        return list(operation[2:])
    return [operation[-1]]


def filter_rows(operation, found):
    _, condition, operand = operation
    return [row for row in found[operand] if is_true(evaluate(condition, row))]


def map_rows(operation, found):
    _, expressions, operand = operation
    return in_order([values_of(expressions, row) for row in found[operand]])


def join_rows(operation, found):
    _, condition, first, second = operation
    # In order, because the rows of both are.
    return [one + other for one in found[first] for other in found[second] if matches(condition, one, other)]


def union_rows(operation, found):
    _, first, second = operation
    return in_order(found[first] + found[second])


def minus_rows(operation, found):
    _, first, second = operation
    others = {row: True for row in found[second]}
    return [row for row in found[first] if row not in others]


def anti_rows(operation, found):
    _, condition, first, second = operation
    return [row for row in found[first] if not matches_any(condition, row, found[second])]


def group_rows(operation, found):
    _, keys, totals, operand = operation
    # Without keys there is a group even if there are no rows.
    groups = {} if keys else {(): []}
    for row in found[operand]:
        groups.setdefault(values_of(keys, row), []).append(row)
    return in_order([key + totals_of(totals, rows) for key, rows in groups.items()])


def totals_of(totals, rows):
    """Returns the tuple of the values of totals for the rows of a group."""
    return tuple([total(form, rows) for form in totals])


OPERATIONS = {
    "filter": filter_rows,
    "map": map_rows,
    "join": join_rows,
    "union": union_rows,
    "minus": minus_rows,
    "anti": anti_rows,
    "group": group_rows,
}


def operation_rows(operation, tables, steps, found):
    """Returns the rows of an operation. The rows of the operations before it are found."""
    word = operation[0]
    if word == "table":
        return in_order(tables[operation[1]])
    if word == "step":
        return in_order(steps[operation[1]])
    rows_of = OPERATIONS[word]
    return rows_of(operation, found)

"""Points 42 and 43 read straight: each row of an operation is followed on its own, by recursion."""

from plans import ordered, read_possible

from lineworks.values import evaluate, is_true

NAMED = {"filter": [2], "map": [2], "union": [1, 2], "minus": [1, 2], "join": [2, 3], "anti": [2, 3], "group": [3]}


def named(operation):
    return [operation[place] for place in NAMED.get(operation[0], [])]


def leaves(plan, at):
    """Returns the tables and steps that an operation uses, as operations."""
    if not named(plan[at]):
        return {plan[at]}
    return {leaf for operand in named(plan[at]) for leaf in leaves(plan, operand)}


def values(expressions, row):
    return tuple(evaluate(expression, row) for expression in expressions)


def follow(plan, possible, at, row):
    """Returns a set of (table or step, row), with None in the place of the row for all rows."""
    operation = plan[at]
    word, operands = operation[0], named(operation)
    rows = [possible[operand] for operand in operands]

    def below(operand, some):
        return {found for each in some for found in follow(plan, possible, operand, each)}

    def all_below(*some):
        return {(leaf, None) for operand in some for leaf in leaves(plan, operand)}

    if word in ("table", "step"):
        return {(operation, row)} if possible[at] is None or row in possible[at] else set()
    if word == "filter":
        return below(operands[0], [row] if is_true(evaluate(operation[1], row)) else [])
    if word in ("union", "minus"):
        return below(operands[0], [row]) | below(operands[1], [row])
    if word == "join":
        if None in rows:
            return all_below(*operands)
        if not is_true(evaluate(operation[1], row)):
            return set()
        pairs = [(x, y) for x in rows[0] for y in rows[1] if x + y == row]
        return below(operands[0], [x for x, _ in pairs]) | below(operands[1], [y for _, y in pairs])
    if word == "anti":
        if rows[1] is None:
            return below(operands[0], [row]) | all_below(operands[1])
        return below(operands[0], [row]) | below(
            operands[1], [y for y in rows[1] if is_true(evaluate(operation[1], row + y))])
    if rows[0] is None:
        return all_below(operands[0])
    wanted = row if word == "map" else row[:len(operation[1])]
    return below(operands[0], [x for x in rows[0] if values(operation[1], x) == wanted])


def read_deciding(plan, tables, steps, row):
    """Returns the deciding rows of a row of a plan."""
    found = set()
    for (word, index), told in follow(plan, read_possible(plan, tables, steps), len(plan) - 1, row):
        given = (steps if word == "step" else tables)[index]
        found |= {(int(word == "step"), index, each) for each in (given if told is None else [told])}
    return [(is_step, index, each) for is_step, index in sorted({each[:2] for each in found})
            for each in ordered(x for other, at, x in found if (other, at) == (is_step, index))]


def read_origins(plans, entries, step, row):
    """Returns the origins of a row of a step."""
    tables = [[each for _, table, each in entries if table == at] for at in range(8)]
    known = []
    for plan in plans[:step + 1]:
        known.append(read_possible(plan, tables, [rows[-1] for rows in known]))

    def all_of(leaf):
        word, index = leaf
        if word == "table":
            return {number for number, table, _ in entries if table == index}
        used = {operation for operation in plans[index] if operation[0] in ("table", "step")}
        return {number for operation in used for number in all_of(operation)}

    def of_row(at, told):
        found = set()
        for leaf, reached in follow(plans[at], known[at], len(plans[at]) - 1, told):
            if reached is None:
                found |= all_of(leaf)
            elif leaf[0] == "step":
                found |= of_row(leaf[1], reached)
            else:
                found |= {number for number, table, each in entries if (table, each) == (leaf[1], reached)}
        return found

    return sorted(of_row(step, row))

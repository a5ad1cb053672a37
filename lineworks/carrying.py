"""Candidates: the rows that can come out, and the conditions under which they do."""

from lineworks.diagrams import ALWAYS, NEVER
from lineworks.limits import Gathering, Way
from lineworks.queries import matches, values_of
from lineworks.states import total_values
from lineworks.values import evaluate, is_true, row_key


def entry_candidates(store, entries, table):
    """Returns the candidates of a table."""
    conditions = {}
    for number, at, row in entries:
        if at == table:
            conditions[row] = store.disjunction(conditions.get(row, NEVER), store.there(number))
    return in_row_order(list(conditions.items()))


def candidates(store, plan, tables, steps, *, most_rows=500, most_nodes=500):
    """Returns the candidates of a plan, for those of the tables and of the earlier steps."""
    way = Way(store, most_rows, most_nodes)
    found = []
    for operation in plan:
        found.append(operation_candidates(way, operation, tables, steps, found))
    return found[-1]


def pipeline_candidates(store, plans, entries, tables, *, most_rows=500, most_nodes=500):
    """Returns the candidates of each step. tables is the number of tables."""
    given = [entry_candidates(store, entries, table) for table in range(tables)]
    steps = []
    for plan in plans:
        steps.append(candidates(store, plan, given, steps, most_rows=most_rows, most_nodes=most_nodes))
    return steps


def condition_of(candidates, row):
    """Returns the condition of a row, never if it is not among the candidates."""
    for other, condition in candidates:
        if other == row:
            return condition
    return NEVER


def candidate_key(candidate):
    """Returns a tuple that compares as the row of a candidate does."""
    row, _ = candidate
    return row_key(row)


def in_row_order(found):
    return sorted(found, key=candidate_key)


def without_never(found):
    """Returns the rows that come out for some choice."""
    return [(row, condition) for row, condition in found if condition != NEVER]


def collected(way, rows):
    """Collects rows with conditions."""
    gathering = Gathering(way)
    for row, condition in reversed(rows):
        gathering.put(row, condition)
    return in_row_order(gathering.listed())


def filter_candidates(way, operation, found):
    """Nothing is met on the way."""
    _, expression, operand = operation
    return [(row, condition) for row, condition in found[operand] if is_true(evaluate(expression, row))]


def map_candidates(way, operation, found):
    _, expressions, operand = operation
    return collected(way, [(values_of(expressions, row), condition) for row, condition in found[operand]])


def join_candidates(way, operation, found):
    _, expression, first, second = operation
    gathering = Gathering(way)
    # All pairs are collected, from the last one to the first.
    for row, condition in reversed(found[first]):
        for other, other_condition in reversed(found[second]):
            if matches(expression, row, other):
                gathering.put(row + other, way.store.conjunction(condition, other_condition))
    return in_row_order(gathering.listed())


def union_candidates(way, operation, found):
    _, first, second = operation
    return collected(way, found[first] + found[second])


def minus_candidates(way, operation, found):
    _, first, second = operation
    others = {row: condition for row, condition in found[second]}
    left = [(row, way.but_not(condition, others.get(row, NEVER))) for row, condition in found[first]]
    return without_never(left)


def anti_candidates(way, operation, found):
    _, expression, first, second = operation
    left = []
    for row, condition in found[first]:
        matched = way.joined([other_condition for other, other_condition in found[second]
                              if matches(expression, row, other)])
        left.append((row, way.but_not(condition, matched)))
    return without_never(left)


def group_candidates(way, operation, found):
    _, keys, totals, operand = operation
    # Without keys there is a group even if there are no candidates.
    groups = {} if keys else {(): []}
    for row, condition in found[operand]:
        groups.setdefault(values_of(keys, row), []).append((row, condition))
    made = []
    for key, members in groups.items():
        comes_out = way.joined([condition for _, condition in members]) if keys else ALWAYS
        made.extend(with_totals(way, [(key, comes_out)], totals, members))
    return collected(way, made)


def with_totals(way, rows, totals, members):
    """Returns the rows of a group so far, each put together with all values of the totals."""
    found = rows
    for form in totals:
        found = with_values(way, found, total_values(way, form, members))
    return found


def with_values(way, rows, values):
    """Returns the pairs of rows so far and values of one more total that can come out."""
    pairs = []
    for row, condition in rows:
        for value, value_condition in values:
            both = way.both(condition, value_condition)
            if both != NEVER:
                way.meet_list(len(pairs) + 1)
                pairs.append((row + (value,), both))
    return pairs


OPERATIONS = {
    "filter": filter_candidates,
    "map": map_candidates,
    "join": join_candidates,
    "union": union_candidates,
    "minus": minus_candidates,
    "anti": anti_candidates,
    "group": group_candidates,
}


def operation_candidates(way, operation, tables, steps, found):
    """Returns the candidates of an operation. Those of the operations before it are found."""
    word = operation[0]
    if word == "table":
        return list(tables[operation[1]])
    if word == "step":
        return list(steps[operation[1]])
    candidates_of = OPERATIONS[word]
    return candidates_of(way, operation, found)

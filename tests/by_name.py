"""A straight reading of queries by their names, and valid queries made from a random source with a fixed seed."""

from lineworks.errors import Problem
from lineworks.names import PlanWriter, compile_query
from lineworks.values import evaluate, is_true, row_key

PLAIN = {"negate": "negate", "not": "not", "or": "or", "and": "and", "<": "less", "=": "equal", "+": "add",
         "-": "subtract", "*": "multiply", "div": "divide", "mod": "remainder", "missing": "missing",
         "length": "length", "starts": "starts"}


def value(expression, columns, row):
    """Returns the value of an expression for a row with columns (source, name)."""
    word = expression[0]
    if word in ("number", "text", "truth"):
        return expression[1]
    if word == "null":
        return None
    if word in ("name", "field"):
        place, = [at for at, (source, name) in enumerate(columns)
                  if expression in (("name", name), ("field", source, name))]
        return row[place]
    parts = [value(part, columns, row) for part in expression[1:]]
    if word == "coalesce":
        return parts[1] if parts[0] is None else parts[0]
    if word == "if":
        return parts[1] if is_true(parts[0]) else parts[2]
    if word in ("<=", ">=", "!=", ">"):
        return compared(word, *parts)
    return evaluate((PLAIN[word], *[("constant", part) for part in parts]), ())


def compared(word, first, second):
    if first is None or second is None:
        return None
    sign = (row_key((first,)) > row_key((second,))) - (row_key((first,)) < row_key((second,)))
    return int({"<=": sign <= 0, ">=": sign >= 0, "!=": sign != 0, ">": sign > 0}[word])


def rows_of_query(query, declared):
    """Returns the columns and the set of rows of a query. declared has (names, rows) for each table and step."""
    columns, rows = rows_of_chain(query[0][1], declared)
    for how, chain in query[1:]:
        _, others = rows_of_chain(chain, declared)
        rows = {"union": rows | others, "except": rows - others, "intersect": rows & others}[how]
        columns = [(None, name) for _, name in columns]
    return columns, rows


def rows_of_chain(chain, declared):
    operand, stages = chain
    columns, rows = rows_of_operand(operand, declared)
    for stage in stages:
        columns, rows = rows_of_stage(stage, columns, rows, declared)
    return columns, rows


def rows_of_operand(operand, declared):
    word, named, alias = operand
    if word == "named":
        names, rows = declared[named]
        return [(alias, name) for name in names], set(rows)
    columns, rows = rows_of_query(named, declared)
    return [(alias, name) for _, name in columns], rows


def rows_of_stage(stage, columns, rows, declared):
    word = stage[0]
    if word == "where":
        return columns, {row for row in rows if is_true(value(stage[1], columns, row))}
    if word == "select":
        made = {tuple(value(expression, columns, row) for expression, _ in stage[1]) for row in rows}
        return [(None, name) for _, name in stage[1]], made
    if word == "group":
        return rows_of_group(stage, columns, rows)
    _, how, operand, condition = stage
    more, others = rows_of_operand(operand, declared)
    pairs = [(x, y) for x in rows for y in others if is_true(value(condition, columns + more, x + y))]
    matched = {x for x, _ in pairs}
    if how == "semi":
        return columns, matched
    if how == "anti":
        return columns, rows - matched
    joined = {x + y for x, y in pairs}
    if how == "left":
        joined |= {x + (None,) * len(more) for x in rows - matched}
    return columns + more, joined


def rows_of_group(stage, columns, rows):
    _, outputs, totals = stage
    keys = {row: tuple(value(expression, columns, row) for expression, _ in outputs) for row in rows}
    made = set()
    for key in set(keys.values()) if outputs else {()}:
        members = [row for row in rows if keys[row] == key]
        made.add(key + tuple(total_of(form, columns, members) for form, _ in totals))
    return [(None, name) for _, name in outputs + totals], made


def total_of(form, columns, rows):
    if form[0] == "count":
        return len(rows)
    values = [found for found in [value(form[1], columns, row) for row in rows] if found is not None]
    if form[0] == "distinct":
        return len(set(values))
    if form[0] == "sum":
        return sum(values) if values else None
    ordered = sorted(values, key=lambda each: row_key((each,)))
    return None if not ordered else ordered[0] if form[0] == "min" else ordered[-1]


NAMES = ("a", "b", "c", "d")
ALIASES = ("t", "u", "v", "w")


def name(random):
    if random.random() < 0.5:
        return ("name", random.choice(NAMES))
    return ("field", random.choice(ALIASES), random.choice(NAMES))


def number(random):
    kind = random.randrange(8)
    if kind < 3:
        return random.choice([("number", 2), ("null",), name(random)])
    if kind == 3:
        return ("+", name(random), name(random))
    if kind == 4:
        return ("coalesce", name(random), ("number", 1))
    if kind == 5:
        return ("if", condition(random), name(random), name(random))
    if kind == 6:
        return (random.choice(["length", "negate"]), name(random))
    return ("mod", name(random), ("number", 2))


def condition(random):
    kind = random.randrange(6)
    if kind < 3:
        return (random.choice(["<", "<=", "=", "!=", ">=", ">"]), name(random), random.choice([name, number])(random))
    if kind == 3:
        return random.choice([("missing", name(random)), ("not", condition(random)), name(random), ("truth", 1)])
    if kind == 4:
        return ("starts", name(random), ("text", "a"))
    return (random.choice(["and", "or"]), condition(random), condition(random))


def outputs(random):
    return [(random.choice([name, number])(random), made) for made in random.sample(NAMES, random.randint(1, 3))]


def form(random):
    word = random.choice(["count", "distinct", "sum", "min", "max"])
    return (word,) if word == "count" else (word, random.choice([name, number])(random))


def totals(random):
    return [(form(random), made) for made in random.sample(("n", "m"), random.randint(1, 2))]


def stage(random, seen, level):
    kind = random.randrange(8)
    if kind < 4:
        how = random.choice(["inner", "left", "semi", "anti"])
        return ("join", how, operand(random, seen, level), condition(random))
    if kind == 4:
        return ("where", condition(random))
    if kind == 5:
        return ("select", outputs(random))
    with_keys, with_totals = random.choice([(True, False), (False, True), (True, True)])
    return ("group", outputs(random) if with_keys else [], totals(random) if with_totals else [])


def operand(random, seen, level):
    if level and random.random() < 0.3:
        return ("inside", query(random, seen, level - 1), random.choice(ALIASES))
    return ("named", random.choice(seen)[0], random.choice(ALIASES))


def has_problem(read, *arguments):
    try:
        read(*arguments)
    except Problem:
        return True
    return False


def longer(random, seen, query, level):
    """Returns the query with one more stage in its last chain, or with one more chain."""
    if random.random() < 0.15:
        return query + [(random.choice(["union", "except", "intersect"]), (operand(random, seen, level), []))]
    how, (first, stages) = query[-1]
    return query[:-1] + [(how, (first, stages + [stage(random, seen, level)]))]


def query(random, seen, level):
    """Returns a query without problems. Parts with problems are drawn again."""
    made = [(None, (operand(random, seen, level), []))]
    wanted = random.randint(0, 4)
    for _ in range(30):
        if wanted == 0:
            break
        tried = longer(random, seen, made, level)
        # Columns may have one name as long as more stages follow.
        if not has_problem(PlanWriter(seen).write_query, tried):
            made = tried
            wanted -= 1
    for _ in range(30):
        if not has_problem(compile_query, seen, made):
            return made
        how, (first, stages) = made[-1]
        tried = made[:-1] + [(how, (first, stages + [("select", outputs(random))]))]
        if not has_problem(PlanWriter(seen).write_query, tried):
            made = tried
    return query(random, seen, level)

"""Canonical texts of expressions, queries and sources."""

# How closely each operator binds, and how closely its left and its right operand
# have to bind at least to stand without parentheses.
OPERATORS = {
    "or": (1, 1, 2),
    "and": (2, 2, 3),
    "<": (4, 5, 5),
    "<=": (4, 5, 5),
    "=": (4, 5, 5),
    "!=": (4, 5, 5),
    ">=": (4, 5, 5),
    ">": (4, 5, 5),
    "+": (5, 5, 6),
    "-": (5, 5, 6),
    "*": (6, 6, 7),
    "div": (6, 6, 7),
    "mod": (6, 6, 7),
}
NOT = 3
# No operand has to bind more closely than a negation does.
CLOSEST = 7
FUNCTIONS = ("missing", "length", "starts", "coalesce", "if")


def print_expression(expression):
    """Returns the canonical text of an expression."""
    word = expression[0]
    if word in OPERATORS:
        _, left, right = OPERATORS[word]
        return f"{inner_text(expression[1], left)} {word} {inner_text(expression[2], right)}"
    if word == "not":
        return f"not {inner_text(expression[1], NOT)}"
    if word == "negate":
        return f"-{inner_text(expression[1], CLOSEST)}"
    if word in FUNCTIONS:
        arguments = ", ".join([print_expression(part) for part in expression[1:]])
        return f"{word}({arguments})"
    return leaf_text(expression)


def print_query(query):
    """Returns the canonical text of a query, in one line."""
    return " ".join(query_lines(query))


def print_source(items):
    """Returns the canonical text of a list of items."""
    return "".join([item_text(item) for item in items])


def inner_text(expression, least):
    """Returns the text of an operand, in parentheses if it binds less closely than least."""
    text = print_expression(expression)
    if closeness(expression) < least:
        return f"({text})"
    return text


def closeness(expression):
    """Returns how closely an expression binds."""
    word = expression[0]
    if word in OPERATORS:
        return OPERATORS[word][0]
    return NOT if word == "not" else CLOSEST


def leaf_text(expression):
    word = expression[0]
    if word == "number":
        return str(expression[1])
    if word == "text":
        doubled = expression[1].replace("'", "''")
        return f"'{doubled}'"
    if word == "truth":
        return "true" if expression[1] == 1 else "false"
    if word == "null":
        return "null"
    return ".".join(expression[1:])


def item_text(item):
    word, name, parts = item
    if word == "table":
        columns = ", ".join([f"{column} {kind}" for column, kind in parts])
        return f"table {name} ({columns});\n"
    lines = [f"step {name} ="] + [f"  {line}" for line in query_lines(parts)]
    return "\n".join(lines) + ";\n"


def query_lines(query):
    """Returns the parts of a query that stand on lines of their own in a step."""
    lines = []
    for how, (operand, stages) in query:
        start = f"from {operand_text(operand)}"
        lines.append(start if how is None else f"{how} {start}")
        lines.extend([stage_text(stage) for stage in stages])
    return lines


def operand_text(operand):
    word, named, alias = operand
    if word == "inside":
        return f"({print_query(named)}) as {alias}"
    return named if named == alias else f"{named} as {alias}"


def stage_text(stage):
    word = stage[0]
    if word == "join":
        return join_text(stage)
    if word == "where":
        return f"where {print_expression(stage[1])}"
    if word == "select":
        return f"select {outputs_text(stage[1])}"
    return group_text(stage)


def join_text(stage):
    _, how, operand, condition = stage
    start = "join" if how == "inner" else f"{how} join"
    return f"{start} {operand_text(operand)} on {print_expression(condition)}"


def group_text(stage):
    _, outputs, totals = stage
    parts = ["group"]
    if outputs:
        parts.append(outputs_text(outputs))
    if totals:
        parts.append("with")
        parts.append(", ".join([f"{form_text(form)} as {name}" for form, name in totals]))
    return " ".join(parts)


def outputs_text(outputs):
    return ", ".join([output_text(output) for output in outputs])


def output_text(output):
    expression, name = output
    text = print_expression(expression)
    if expression[0] in ("name", "field") and expression[-1] == name:
        return text
    return f"{text} as {name}"


def form_text(form):
    if form[0] == "count":
        return "count"
    return f"{form[0]}({print_expression(form[1])})"

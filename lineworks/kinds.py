"""Kinds of expressions, and the plain expressions that are written out for them."""

from lineworks.errors import Problem

# The kind of the operands and the kind of the result.
OPERATORS = {
    "negate": ("int", "int"),
    "+": ("int", "int"),
    "-": ("int", "int"),
    "*": ("int", "int"),
    "div": ("int", "int"),
    "mod": ("int", "int"),
    "not": ("truth", "truth"),
    "and": ("truth", "truth"),
    "or": ("truth", "truth"),
    "length": ("text", "int"),
    "starts": ("text", "truth"),
}
COMPARISONS = ("<", "<=", "=", "!=", ">=", ">")
EXPECTED = {
    "int": "expected an integer",
    "text": "expected a text",
    "truth": "expected a truth value",
}
# What these are called in plain expressions, with the same operands in the same order.
PLAIN_WORDS = {
    "+": "add",
    "-": "subtract",
    "*": "multiply",
    "div": "divide",
    "mod": "remainder",
    "<": "less",
    "=": "equal",
    "if": "choose",
}
# What these are written out as has one part more than what they are written as.
LARGER = ("<=", "!=", ">=")

MOST_SIZE = 200


def compile_expression(columns, expression):
    """Returns the plain expression for an expression over columns, and its kind or None."""
    plain, kind, size = written_out(columns, expression)
    if size > MOST_SIZE:
        raise Problem("too large")
    return plain, kind


def expect_kind(kind, expected):
    """Raises a problem if a kind is another one than expected. None fits each kind."""
    if kind not in (None, expected):
        raise Problem(EXPECTED[expected])


def written_out(columns, expression):
    """Returns the plain expression, its kind and its size."""
    word = expression[0]
    if word in ("name", "field"):
        return named_column(columns, expression)
    if word == "null":
        return ("constant", None), None, 1
    if word == "number":
        return ("constant", expression[1]), "int", 1
    if word in ("text", "truth"):
        return ("constant", expression[1]), word, 1
    # Each operand has its problem told before the operator has.
    operands = [written_out(columns, part) for part in expression[1:]]
    result = result_kind(word, [kind for _, kind, _ in operands])
    form = plain_form(word, [plain for plain, _, _ in operands])
    return form, result, result_size(word, [size for _, _, size in operands])


def named_column(columns, expression):
    """Returns what written_out returns for a name, with or without a source."""
    told = ".".join(expression[1:])
    places = [at for at, column in enumerate(columns) if is_named(column, expression)]
    if not places:
        raise Problem(f"unknown name: {told}")
    if len(places) > 1:
        raise Problem(f"ambiguous name: {told}")
    _, _, kind = columns[places[0]]
    return ("column", places[0]), kind, 1


def is_named(column, expression):
    source, name, _ = column
    if expression[0] == "name":
        return name == expression[1]
    return (source, name) == expression[1:]


def result_kind(word, kinds):
    """Returns the kind of what an operator or a function gives for operands of these kinds."""
    if word in OPERATORS:
        expected, result = OPERATORS[word]
        for kind in kinds:
            expect_kind(kind, expected)
        return result
    if word == "missing":
        return "truth"
    if word == "if":
        expect_kind(kinds[0], "truth")
        return common_kind(kinds[1], kinds[2])
    common = common_kind(kinds[0], kinds[1])
    return "truth" if word in COMPARISONS else common


def common_kind(first, second):
    """Returns the kind of the first one of both that has a kind."""
    if first is None:
        return second
    if second not in (None, first):
        raise Problem("different kinds")
    return first


def plain_form(word, parts):
    """Returns the plain expression of an operator or a function over plain operands."""
    first = parts[0]
    second = parts[-1]
    if word == "<=":
        return "not", ("less", second, first)
    if word == "!=":
        return "not", ("equal", first, second)
    if word == ">=":
        return "not", ("less", first, second)
    if word == ">":
        return "less", second, first
    if word == "coalesce":
        return "choose", ("missing", first), second, first
    return (PLAIN_WORDS.get(word, word), *parts)


def result_size(word, sizes):
    """Returns the size of an operator or a function over operands of these sizes."""
    if word == "coalesce":
        return 2 + 2 * sizes[0] + sizes[1]
    if word in LARGER:
        return 2 + sum(sizes)
    return 1 + sum(sizes)

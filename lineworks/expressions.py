"""The grammar of expressions. Each function that reads one returns its tree and its height."""

COMPARISONS = ("<", "<=", "=", "!=", ">=", ">")
CONSTANTS = {"true": ("truth", 1), "false": ("truth", 0), "null": ("null",)}
# How many arguments each function takes.
FUNCTIONS = {"missing": 1, "length": 1, "starts": 2, "coalesce": 2, "if": 3}

MOST_HEIGHT = 30
MOST_LEVEL = 12


def read_expression(reader):
    """Reads an expression that stands directly in a query or a total, and returns its tree."""
    tree, height = read_or(reader, 0)
    if height > MOST_HEIGHT:
        reader.fail("too many operators")
    return tree


def read_or(reader, level):
    return read_left_to_right(reader, level, ("or",), read_and)


def read_and(reader, level):
    return read_left_to_right(reader, level, ("and",), read_not)


def read_not(reader, level):
    if reader.ahead() != "not":
        return read_comparison(reader, level)
    inner = deeper(reader, level)
    reader.take()
    tree, height = read_not(reader, inner)
    return ("not", tree), height + 1


def read_comparison(reader, level):
    left, left_height = read_sum(reader, level)
    if reader.ahead() not in COMPARISONS:
        return left, left_height
    word = reader.take()
    right, right_height = read_sum(reader, level)
    return (word, left, right), 1 + max(left_height, right_height)


def read_sum(reader, level):
    return read_left_to_right(reader, level, ("+", "-"), read_product)


def read_product(reader, level):
    return read_left_to_right(reader, level, ("*", "div", "mod"), read_negation)


def read_negation(reader, level):
    if reader.ahead() != "-":
        return read_atom(reader, level)
    inner = deeper(reader, level)
    reader.take()
    tree, height = read_negation(reader, inner)
    return ("negate", tree), height + 1


def read_left_to_right(reader, level, words, read_operand):
    """Reads operands with words between them that associate to the left."""
    tree, height = read_operand(reader, level)
    while reader.ahead() in words:
        word = reader.take()
        right, right_height = read_operand(reader, level)
        tree = (word, tree, right)
        height = 1 + max(height, right_height)
    return tree, height


def read_atom(reader, level):
    if reader.ahead() == "(":
        return read_parenthesis(reader, level)
    if reader.ahead() in FUNCTIONS:
        return read_call(reader, level)
    return read_leaf(reader), 0


def read_parenthesis(reader, level):
    inner = deeper(reader, level)
    reader.take()
    tree, height = read_or(reader, inner)
    reader.expect(")")
    return tree, height


def read_call(reader, level):
    inner = deeper(reader, level)
    word = reader.take()
    reader.expect("(")
    tree, greatest = read_or(reader, inner)
    arguments = [tree]
    while len(arguments) < FUNCTIONS[word]:
        reader.expect(",")
        tree, height = read_or(reader, inner)
        arguments.append(tree)
        greatest = max(greatest, height)
    reader.expect(")")
    return (word, *arguments), greatest + 1


def read_leaf(reader):
    """Reads what has no operands, and returns its tree alone."""
    kind = reader.kind()
    if kind in ("number", "text"):
        return kind, reader.take()
    if kind == "name":
        return read_named(reader)
    word = reader.ahead()
    if word not in CONSTANTS:
        reader.fail("expected an expression")
    reader.take()
    return CONSTANTS[word]


def read_named(reader):
    name = reader.take_name()
    if reader.ahead() != ".":
        return "name", name
    reader.take()
    return "field", name, reader.take_name()


def deeper(reader, level):
    """Returns the level below, which the next token begins."""
    if level == MOST_LEVEL:
        reader.fail("nested too deeply")
    return level + 1

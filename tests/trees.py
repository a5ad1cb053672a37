"""Trees of expressions, queries and items, made from a random source with a fixed seed."""

NAMES = ("a", "b", "t", "u", "x_1", "Table", "_")
LEFT_TO_RIGHT = ("or", "and", "+", "-", "*", "div", "mod")
COMPARISONS = ("<", "<=", "=", "!=", ">=", ">")
FUNCTIONS = (("missing", 1), ("length", 1), ("starts", 2), ("coalesce", 2), ("if", 3))


def leaf(random):
    return random.choice([
        ("number", random.choice([0, 7, 10, 10 ** 15 - 1])),
        ("text", random.choice(["", "a", "it's", "''", "# a", "from t;", "a\tb"])),
        ("truth", random.choice([0, 1])),
        ("null",),
        ("name", random.choice(NAMES)),
        ("field", random.choice(NAMES), random.choice(NAMES)),
    ])


def expression(random, height):
    """Returns an expression with at most this height."""
    if height == 0 or random.random() < 0.15:
        return leaf(random)
    kind = random.randrange(10)
    if kind < 4:
        word, count = random.choice(LEFT_TO_RIGHT), 2
    elif kind < 6:
        word, count = random.choice(COMPARISONS), 2
    elif kind < 9:
        word, count = random.choice(("not", "negate")), 1
    else:
        word, count = random.choice(FUNCTIONS)
    return (word, *[expression(random, height - 1) for _ in range(count)])


def output(random):
    made = expression(random, random.randrange(3))
    if made[0] in ("name", "field") and random.random() < 0.7:
        return made, made[-1]
    return made, random.choice(NAMES)


def outputs(random):
    return [output(random) for _ in range(random.randint(1, 3))]


def totals(random):
    forms = [("count",)] + [(word, expression(random, 2)) for word in ("distinct", "sum", "min", "max")]
    return [(random.choice(forms), random.choice(NAMES)) for _ in range(random.randint(1, 3))]


def operand(random, level):
    if level > 0 and random.random() < 0.4:
        return "inside", query(random, level - 1), random.choice(NAMES)
    name = random.choice(NAMES)
    return "named", name, random.choice([name, random.choice(NAMES)])


def stage(random, level):
    kind = random.randrange(5)
    if kind < 2:
        how = random.choice(["inner", "left", "semi", "anti"])
        return "join", how, operand(random, level), expression(random, 3)
    if kind == 2:
        return "where", expression(random, 4)
    if kind == 3:
        return "select", outputs(random)
    keys, sums = random.choice([(True, False), (False, True), (True, True)])
    return "group", outputs(random) if keys else [], totals(random) if sums else []


def chain(random, level):
    return operand(random, level), [stage(random, level) for _ in range(random.randrange(3))]


def query(random, level):
    """Returns a query with at most this many queries in parentheses inside one another."""
    more = random.choice([0, 0, 1, 2])
    words = [None] + [random.choice(["union", "except", "intersect"]) for _ in range(more)]
    return [(word, chain(random, level)) for word in words]


def item(random):
    if random.random() < 0.3:
        columns = [(random.choice(NAMES), random.choice(["int", "text", "truth"])) for _ in range(random.randint(1, 4))]
        return "table", random.choice(NAMES), columns
    return "step", random.choice(NAMES), query(random, 2)

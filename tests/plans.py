"""Plans made from a random source with a fixed seed, and a straight reading of the rows of plans."""

from lineworks.totals import total
from lineworks.values import evaluate, is_true, row_key

# Some more often than others, so that rows often match.
VALUES = (1, 1, 1, 2, 2, 2, None, 0, "", "a")
FORMS = ("count", "distinct", "sum", "least", "greatest")


def ordered(rows):
    """Returns the rows of a set in their order."""
    return sorted(rows, key=row_key)


def row(random, width):
    return tuple(random.choice(VALUES) for _ in range(width))


def term(random, width):
    """Returns an expression for a value."""
    if random.random() < 0.1:
        return ("constant", random.choice(VALUES))
    column = ("column", random.randrange(width))
    if random.random() < 0.1:
        return ("add", column, ("constant", random.choice([1, 2])))
    return column


def condition(random, width):
    """Returns an expression that is a condition, and unknown for some rows."""
    kind = random.randrange(8)
    if kind < 2:
        return ("equal", term(random, width), ("constant", random.choice(VALUES)))
    if kind < 4:
        return ("not", ("equal", term(random, width), ("constant", random.choice(VALUES))))
    if kind < 6:
        return ("less", term(random, width), random.choice([term(random, width), ("constant", 2)]))
    if kind == 6:
        return random.choice([("missing", term(random, width)), ("constant", 1)])
    return (random.choice(["and", "or"]), condition(random, width), condition(random, width))


def match(random, width, other):
    """Returns a condition of a join, which often compares a column of each side."""
    if random.random() < 0.8:
        first, second = ("column", random.randrange(width)), ("column", width + random.randrange(other))
        return random.choice([("equal", first, second), ("less", first, second), ("not", ("equal", first, second))])
    return condition(random, width + other)


def form(random, width):
    word = random.choice(FORMS)
    return (word,) if word == "count" else (word, term(random, width))


class Maker:
    """Writes a plan over tables and steps with the given numbers of columns."""

    def __init__(self, random, tables, steps):
        self.random = random
        self.tables = tables
        self.steps = steps
        self.plan = []
        self.widths = []

    def write(self, operation, width):
        self.plan.append(operation)
        self.widths.append(width)

    def leaf(self):
        number = self.random.randrange(len(self.tables) + len(self.steps))
        if number < len(self.tables):
            self.write(("table", number), self.tables[number])
        else:
            step = number - len(self.tables)
            self.write(("step", step), self.steps[step])

    def any_of(self, width=None):
        """Returns the index of an operation, with a number of columns if one is told."""
        fitting = [at for at, each in enumerate(self.widths) if width in (None, each)]
        # Later ones are taken more often, so that most operations are named by a later one.
        return max(self.random.choice(fitting), self.random.choice(fitting))

    def operation(self, word):
        random, first = self.random, self.any_of()
        width = self.widths[first]
        if word == "filter":
            self.write(("filter", condition(random, width), first), width)
        elif word == "map":
            terms = [term(random, width) for _ in range(random.randint(1, 2))]
            self.write(("map", terms, first), len(terms))
        elif word == "join":
            second = self.any_of()
            self.write(("join", match(random, width, self.widths[second]), first, second), width + self.widths[second])
        elif word == "anti":
            second = self.any_of()
            self.write(("anti", match(random, width, self.widths[second]), first, second), width)
        elif word in ("union", "minus"):
            self.write((word, first, self.any_of(width)), width)
        else:
            keys = [term(random, width) for _ in range(random.choice([0, 1, 1, 2]))]
            forms = [form(random, width) for _ in range(random.randint(0 if keys else 1, 2))]
            self.write(("group", keys, forms, first), len(keys) + len(forms))


WORDS = ("filter", "map", "join", "anti", "union", "minus", "group")


def plan(random, tables, steps, most=5, words=WORDS):
    """Returns a plan and its number of columns, which is not too great."""
    maker = Maker(random, tables, steps)
    for _ in range(random.randint(1, 3)):
        maker.leaf()
    for _ in range(random.randint(0, most)):
        maker.operation(random.choice(words))
    if maker.widths[-1] > 6:
        return plan(random, tables, steps, most, words)
    return maker.plan, maker.widths[-1]


def plan_with(random, tables, steps, word):
    """Returns a plan with an operation of this word at its end."""
    maker = Maker(random, tables, steps)
    for _ in range(random.randint(1, 3)):
        maker.leaf()
    for _ in range(random.randint(0, 1)):
        maker.operation(random.choice(("filter", "map", "union", "minus")))
    maker.operation(word)
    return maker.plan


def read_rows(plan, tables, steps):
    """Returns the set of rows of each operation of a plan, as point 24 says it."""
    found = []
    for operation in plan:
        found.append(read_operation(operation, tables, steps, found))
    return found


def read_operation(operation, tables, steps, found):
    word = operation[0]
    if word == "table":
        return set(tables[operation[1]])
    if word == "step":
        return set(steps[operation[1]])
    if word == "filter":
        return {x for x in found[operation[2]] if is_true(evaluate(operation[1], x))}
    if word == "map":
        return {tuple(evaluate(e, x) for e in operation[1]) for x in found[operation[2]]}
    if word == "union":
        return found[operation[1]] | found[operation[2]]
    if word == "minus":
        return found[operation[1]] - found[operation[2]]
    if word == "group":
        return read_group(operation, found[operation[3]])
    first, second = found[operation[2]], found[operation[3]]
    pairs = {(x, y) for x in first for y in second if is_true(evaluate(operation[1], x + y))}
    if word == "join":
        return {x + y for x, y in pairs}
    return first - {x for x, _ in pairs}


def read_group(operation, rows):
    _, keys, forms, _ = operation
    made = {x: tuple(evaluate(e, x) for e in keys) for x in rows}
    groups = set(made.values()) if keys else {()}
    return {key + tuple(total(each, [x for x in rows if made[x] == key]) for each in forms) for key in groups}


def read_possible(plan, tables, steps, most=500):
    """Returns the possible rows of each operation as sets, None where they are unknown, as point 41 says it."""
    found = []
    for operation in plan:
        word, *parts = operation
        places = {"filter": 1, "map": 1, "join": 2, "union": 2, "minus": 2, "anti": 2, "group": 1}.get(word, 0)
        named = [found[at] for at in parts[len(parts) - places:]] if places else []
        if word in ("table", "step"):
            rows = (tables if word == "table" else steps)[parts[0]]
            made = None if rows is None else set(rows)
        elif word in ("minus", "anti"):
            made = named[0]
        elif any(rows is None for rows in named):
            made = None
        elif word == "group":
            made = None if parts[1] else {tuple(evaluate(e, row) for e in parts[0]) for row in named[0]}
        else:
            made = read_operation(operation, tables, steps, found)
            if word in ("join", "union") and len(made) > most:
                made = None
        found.append(made)
    return found

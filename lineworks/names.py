"""Names of queries, and the plans that are written out for queries."""

from lineworks.errors import Problem
from lineworks.kinds import compile_expression, expect_kind

PLAIN_TOTALS = {"distinct": "distinct", "sum": "sum", "min": "least", "max": "greatest"}

MOST_COLUMNS = 16


def compile_query(seen, query):
    """Returns the plan of a query over what can be named, and its columns as (name, kind)."""
    writer = PlanWriter(seen)
    _, columns = writer.write_query(query)
    check_names(names_of(columns))
    return writer.plan, [(name, kind) for _, name, kind in columns]


def names_of(columns):
    return [name for _, name, _ in columns]


def kinds_of(columns):
    return [kind for _, _, kind in columns]


def check_names(names):
    """Raises a problem about the first name that a name before it is the same as."""
    for at, name in enumerate(names):
        check_new(name, names[:at])


def check_new(name, others):
    if name in others:
        raise Problem(f"declared twice: {name}")


def check_number(columns):
    if len(columns) > MOST_COLUMNS:
        raise Problem("too many columns")


def under(source, columns):
    """Returns the columns with another source."""
    return [(source, name, kind) for _, name, kind in columns]


def compile_condition(columns, expression):
    plain, kind = compile_expression(columns, expression)
    expect_kind(kind, "truth")
    return plain


def compile_outputs(columns, outputs):
    """Returns the plain expressions of outputs, and the columns that they make."""
    plains = []
    made = []
    for expression, name in outputs:
        plain, kind = compile_expression(columns, expression)
        check_known(kind, name)
        check_new(name, names_of(made))
        plains.append(plain)
        made.append((None, name, kind))
    return plains, made


def check_known(kind, name):
    if kind is None:
        raise Problem(f"unknown kind: {name}")


def compile_totals(columns, totals, keys):
    """Returns the plain totals, and the columns of keys with those that the totals make."""
    plains = []
    made = list(keys)
    for form, name in totals:
        plain, kind = compile_total(columns, form, name)
        check_new(name, names_of(made))
        plains.append(plain)
        made.append((None, name, kind))
    return plains, made


def compile_total(columns, form, name):
    """Returns the plain total and its kind. The name is only told."""
    word = form[0]
    if word == "count":
        return ("count",), "int"
    plain, kind = compile_expression(columns, form[1])
    if word == "sum":
        expect_kind(kind, "int")
    if word in ("min", "max"):
        check_known(kind, name)
    else:
        kind = "int"
    return (PLAIN_TOTALS[word], plain), kind


class PlanWriter:
    """Writes a plan. Its methods for parts of a query write the operations of the part,
    and return the index of the last one and the columns as (source, name, kind)."""

    def __init__(self, seen):
        self.seen = seen
        self.plan = []

    def write(self, operation):
        """Writes an operation at the end and returns its index."""
        self.plan.append(operation)
        return len(self.plan) - 1

    def write_query(self, query):
        at, columns = self.write_chain(query[0][1])
        for how, chain in query[1:]:
            other, other_columns = self.write_chain(chain)
            check_names(names_of(columns))
            check_names(names_of(other_columns))
            if kinds_of(columns) != kinds_of(other_columns):
                raise Problem("different columns")
            at = self.write_both(how, at, other)
            columns = under(None, columns)
        return at, columns

    def write_both(self, how, first, second):
        if how == "union":
            return self.write(("union", first, second))
        rest = self.write(("minus", first, second))
        if how == "except":
            return rest
        return self.write(("minus", first, rest))

    def write_chain(self, chain):
        operand, stages = chain
        at, columns = self.write_operand(operand)
        for stage in stages:
            at, columns = self.write_stage(stage, at, columns)
        return at, columns

    def write_operand(self, operand):
        word, named, alias = operand
        if word == "named":
            at, columns = self.write_named(named)
        else:
            at, columns = self.write_query(named)
            check_names(names_of(columns))
        return at, under(alias, columns)

    def write_named(self, named):
        for name, operation, columns in self.seen:
            if name == named:
                return self.write(operation), [(None, column, kind) for column, kind in columns]
        raise Problem(f"unknown table or step: {named}")

    def write_stage(self, stage, at, columns):
        word = stage[0]
        if word == "join":
            return self.write_join(stage, at, columns)
        if word == "where":
            plain = compile_condition(columns, stage[1])
            return self.write(("filter", plain, at)), columns
        if word == "group":
            return self.write_group(stage, at, columns)
        plains, made = compile_outputs(columns, stage[1])
        check_number(made)
        return self.write(("map", plains, at)), made

    def write_group(self, stage, at, columns):
        _, outputs, totals = stage
        keys, key_columns = compile_outputs(columns, outputs)
        plain_totals, made = compile_totals(columns, totals, key_columns)
        check_number(made)
        return self.write(("group", keys, plain_totals, at)), made

    def write_join(self, stage, at, columns):
        _, how, operand, condition = stage
        other, other_columns = self.write_operand(operand)
        check_new(operand[2], [source for source, _, _ in columns])
        both = columns + other_columns
        plain = compile_condition(both, condition)
        if how == "anti":
            return self.write(("anti", plain, at, other)), columns
        if how == "semi":
            rest = self.write(("anti", plain, at, other))
            return self.write(("minus", at, rest)), columns
        check_number(both)
        joined = self.write(("join", plain, at, other))
        if how == "left":
            rest = self.write(("anti", plain, at, other))
            filled = self.write(("map", filled_columns(columns, other_columns), rest))
            joined = self.write(("union", joined, filled))
        return joined, both


def filled_columns(columns, missing):
    """Returns the expressions for the columns, followed by None for each missing one."""
    kept = [("column", at) for at in range(len(columns))]
    return kept + [("constant", None) for _ in missing]

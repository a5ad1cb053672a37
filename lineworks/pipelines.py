"""Pipelines: the tables and the steps that a source declares."""

from lineworks.errors import Problem, SourceError
from lineworks.names import check_names, check_new, compile_query
from lineworks.parsing import parse_item, parse_query, parse_source
from lineworks.tokens import place, tokens

MOST_TABLES = 8
MOST_TABLE_COLUMNS = 8
MOST_STEPS = 16
MOST_OPERATIONS = 40


class Pipeline:
    """Tables and steps with their columns, and the plans of the steps."""

    def __init__(self, tables, steps, plans):
        # Copies, because pipelines that come from one another have parts in common.
        self.tables = [(name, list(columns)) for name, columns in tables]
        self.steps = [(name, list(columns)) for name, columns in steps]
        self.plans = [copied_plan(plan) for plan in plans]

    def table_index(self, name):
        """Returns the index of the table with the name, or None."""
        return index_of(name, self.tables)

    def step_index(self, name):
        """Returns the index of the step with the name, or None."""
        return index_of(name, self.steps)


def check_source(source):
    """Returns the faults of a source as a list of (line, column, message)."""
    try:
        _, faults = read_pipeline(source)
    except SourceError as fault:
        return [(fault.line, fault.column, fault.message)]
    return faults


def compile_source(source):
    """Returns the pipeline of a source."""
    pipeline, faults = read_pipeline(source)
    if faults:
        line, column, message = faults[0]
        raise SourceError(line, column, message)
    return pipeline


def define_step(pipeline, step, source):
    """Returns a pipeline in which the step with the index step has another query."""
    query = parse_query(source)
    try:
        return with_query(pipeline, step, query)
    except Problem as problem:
        line, column = place_of_start(source)
        raise SourceError(line, column, problem.message) from None


def append_step(pipeline, source):
    """Returns a pipeline with one more step behind all others."""
    item = parse_item(source)
    try:
        if item[0] == "table":
            raise Problem("expected step")
        return with_item(pipeline, item)
    except Problem as problem:
        line, column = place_of_start(source)
        raise SourceError(line, column, problem.message) from None


def drop_step(pipeline):
    """Returns a pipeline without the last step."""
    return Pipeline(pipeline.tables, pipeline.steps[:-1], pipeline.plans[:-1])


def copied_plan(plan):
    return [tuple([copied_part(part) for part in operation]) for operation in plan]


def copied_part(part):
    return list(part) if isinstance(part, list) else part


def index_of(name, declared):
    """Returns the index of what is declared under a name, or None."""
    for at, (other, _) in enumerate(declared):
        if other == name:
            return at
    return None


def place_of_start(source):
    """Returns the line and the column of the first token."""
    _, _, offset = tokens(source)[0]
    return place(source, offset)


def read_pipeline(source):
    """Returns the pipeline of the items without problems, and the faults of the others."""
    pipeline = Pipeline([], [], [])
    faults = []
    for item, offset in parse_source(source):
        try:
            pipeline = with_item(pipeline, item)
        except Problem as problem:
            line, column = place(source, offset)
            faults.append((line, column, problem.message))
    return pipeline, faults


def with_item(pipeline, item):
    """Returns a pipeline in which an item is declared behind all others."""
    word, name, parts = item
    check_new(name, [other for other, _ in pipeline.tables + pipeline.steps])
    if word == "table":
        return with_table(pipeline, name, parts)
    return with_step(pipeline, name, parts)


def with_table(pipeline, name, columns):
    if len(pipeline.tables) >= MOST_TABLES:
        raise Problem("too many tables")
    check_names([column for column, _ in columns])
    if len(columns) > MOST_TABLE_COLUMNS:
        raise Problem("too many columns")
    return Pipeline(pipeline.tables + [(name, columns)], pipeline.steps, pipeline.plans)


def with_step(pipeline, name, query):
    if len(pipeline.steps) >= MOST_STEPS:
        raise Problem("too many steps")
    plan, columns = compile_step(pipeline, len(pipeline.steps), query)
    steps = pipeline.steps + [(name, columns)]
    return Pipeline(pipeline.tables, steps, pipeline.plans + [plan])


def with_query(pipeline, step, query):
    """Returns a pipeline in which a step has another query with the same columns."""
    plan, columns = compile_step(pipeline, step, query)
    _, old_columns = pipeline.steps[step]
    if columns != old_columns:
        raise Problem("different columns")
    plans = pipeline.plans[:step] + [plan] + pipeline.plans[step + 1:]
    return Pipeline(pipeline.tables, pipeline.steps, plans)


def compile_step(pipeline, step, query):
    """Returns the plan and the columns of a query in the place of a step."""
    plan, columns = compile_query(seen_by(pipeline, step), query)
    if len(plan) > MOST_OPERATIONS:
        raise Problem("too large")
    return plan, columns


def seen_by(pipeline, step):
    """Returns what the step with the index step can name: all tables, and the steps before."""
    seen = []
    for at, (name, columns) in enumerate(pipeline.tables):
        seen.append((name, ("table", at), columns))
    for at, (name, columns) in enumerate(pipeline.steps[:step]):
        seen.append((name, ("step", at), columns))
    return seen

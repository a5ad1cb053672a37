"""The grammar of sources, items and queries."""

from lineworks.expressions import read_expression
from lineworks.reading import Reader

ARGUMENT_TOTALS = ("distinct", "sum", "min", "max")
JOIN_WORDS = ("left", "semi", "anti")
KINDS = ("int", "text", "truth")
STAGE_WORDS = ("left", "semi", "anti", "join", "where", "group", "select")
UNION_WORDS = ("union", "except", "intersect")

MOST_LEVEL = 6


def parse_source(source):
    """Returns the items of a source as a list of (item, offset)."""
    reader = Reader(source)
    items = []
    while reader.kind() != "end":
        offset = reader.offset()
        items.append((read_item(reader), offset))
    return items


def parse_query(source):
    """Returns the query whose text the source is."""
    reader = Reader(source)
    query = read_query(reader, 0)
    reader.expect_end()
    return query


def parse_item(source):
    """Returns the item whose text the source is."""
    reader = Reader(source)
    item = read_item(reader)
    reader.expect_end()
    return item


def read_item(reader):
    if reader.ahead() not in ("table", "step"):
        reader.fail("expected table or step")
    word = reader.take()
    item = read_table(reader) if word == "table" else read_step(reader)
    reader.expect(";")
    return item


def read_table(reader):
    name = reader.take_name()
    reader.expect("(")
    columns = read_list(reader, read_column)
    reader.expect(")")
    return "table", name, columns


def read_list(reader, read_part):
    """Reads one part or more, with commas between them."""
    parts = [read_part(reader)]
    while reader.ahead() == ",":
        reader.take()
        parts.append(read_part(reader))
    return parts


def read_column(reader):
    name = reader.take_name()
    if reader.ahead() not in KINDS:
        reader.fail("expected int, text or truth")
    return name, reader.take()


def read_step(reader):
    name = reader.take_name()
    reader.expect("=")
    return "step", name, read_query(reader, 0)


def read_query(reader, level):
    chains = [(None, read_chain(reader, level))]
    while reader.ahead() in UNION_WORDS:
        how = reader.take()
        chains.append((how, read_chain(reader, level)))
    return chains


def read_chain(reader, level):
    reader.expect("from")
    operand = read_operand(reader, level)
    stages = []
    while reader.ahead() in STAGE_WORDS:
        stages.append(read_stage(reader, level))
    return operand, stages


def read_operand(reader, level):
    if reader.ahead() == "(":
        return read_inside(reader, level)
    name = reader.take_name()
    if reader.ahead() != "as":
        return "named", name, name
    reader.take()
    return "named", name, reader.take_name()


def read_inside(reader, level):
    if level == MOST_LEVEL:
        reader.fail("nested too deeply")
    reader.take()
    query = read_query(reader, level + 1)
    reader.expect(")")
    reader.expect("as")
    return "inside", query, reader.take_name()


def read_stage(reader, level):
    word = reader.take()
    if word == "where":
        return "where", read_expression(reader)
    if word == "select":
        return "select", read_list(reader, read_output)
    if word == "group":
        return read_group(reader)
    if word in JOIN_WORDS:
        reader.expect("join")
        return read_join(reader, level, word)
    return read_join(reader, level, "inner")


def read_join(reader, level, how):
    operand = read_operand(reader, level)
    reader.expect("on")
    return "join", how, operand, read_expression(reader)


def read_group(reader):
    outputs = []
    totals = []
    if reader.ahead() != "with":
        outputs = read_list(reader, read_output)
    if reader.ahead() == "with":
        reader.take()
        totals = read_list(reader, read_total)
    return "group", outputs, totals


def read_output(reader):
    expression = read_expression(reader)
    if expression[0] in ("name", "field") and reader.ahead() != "as":
        return expression, expression[-1]
    reader.expect("as")
    return expression, reader.take_name()


def read_total(reader):
    form = read_form(reader)
    reader.expect("as")
    return form, reader.take_name()


def read_form(reader):
    word = reader.ahead()
    if word == "count":
        reader.take()
        return (word,)
    if word not in ARGUMENT_TOTALS:
        reader.fail("expected count, distinct, sum, min or max")
    reader.take()
    reader.expect("(")
    expression = read_expression(reader)
    reader.expect(")")
    return word, expression

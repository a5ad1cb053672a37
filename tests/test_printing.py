"""Points 11, 12 and 13: canonical texts."""

import random
import unittest

import trees

from lineworks.errors import SourceError
from lineworks.parsing import parse_item, parse_query, parse_source
from lineworks.printing import print_expression, print_query, print_source
from lineworks.tokens import tokens


def condition(text):
    return parse_query(f"from t where {text}")[0][1][1][0][1]


def items(source):
    return [item for item, _ in parse_source(source)]


# Canonical texts of expressions.
CANONICAL = [
    "0", "7", "999999999999999", "'a'", "''", "'it''s'", "''''", "'# a'", "true", "false", "null", "a", "a.x",
    "missing(a)", "length(a + b)", "starts(a, 'b')", "coalesce(a or b, c < d)", "if(not a, -b, c.d)",
    "-a", "--a", "-7", "-(a + b)", "-(a * b)", "-length(a)", "a - -b", "a * -b", "-a * b",
    "a - b - c", "a - (b - c)", "a + (b + c)", "a * (b * c)", "a div b mod c", "a div (b mod c)",
    "a + b * c", "(a + b) * c", "a * (b + c)", "a * b + c",
    "a < b", "a <= b", "a = b", "a != b", "a >= b", "a > b", "(a < b) < c", "a < (b < c)", "(a = b) != (c = d)",
    "a + b < c - d", "(a < b) + c", "-(a < b)",
    "not a", "not not a", "not a = b", "(not a) = b", "a = (not b)", "not (a and b)", "not (a or b)", "-(not a)",
    "(not a) + b", "a * (not b)", "length(not a)",
    "a and b and c", "a and (b and c)", "a or b or c", "a or (b or c)", "a or b and c", "(a or b) and c",
    "a and (b or c)", "a and not b", "not a and b", "a or not b", "not a or b", "(a and b) = c", "-(a and b)",
    "a = (b or c)", "(a or b) + c", "a < b and c < d or e > f",
]

# Texts of expressions and their canonical texts.
CHANGED = [
    ("(a)", "a"), ("((a.x))", "a.x"), ("a  .  x", "a.x"), ("007", "7"), ("00", "0"), ("- 7", "-7"), ("- - a", "--a"),
    ("-(-a)", "--a"), ("not(a)", "not a"), ("not (not a)", "not not a"), ("not (a = b)", "not a = b"),
    ("(a - b) - c", "a - b - c"), ("(a * b) + (c * d)", "a * b + c * d"), ("(a and b) or c", "a and b or c"),
    ("(a < b) and (not c)", "a < b and not c"), ("a<=b", "a <= b"), ("missing ( a )", "missing(a)"),
    ("if((a),(b),(c))", "if(a, b, c)"), ("(-a) * (-b)", "-a * -b"), ("-(length(a))", "-length(a)"),
    ("(a + b) < (c)", "a + b < c"), ("a - (-b)", "a - -b"), ("(not a) and b", "not a and b"), ("a # c\n+ b", "a + b"),
    ("starts(a , 'it''s')", "starts(a, 'it''s')"), ("(a or b) or (c or d)", "a or b or (c or d)"),
]

# Canonical texts of queries.
QUERIES = [
    "from t", "from t as u", "from (from t) as t", "from (from t where a union from u as v) as w where b",
    "from t join u on a", "from t left join u as v on a = b", "from t semi join (from u) as v on true",
    "from t anti join u on a or b", "from t where a", "from t select a, t.b, a as c, t.b as d, 1 as e",
    "from t group a", "from t group a, a + b as c with count as n, sum(a) as s", "from t group with distinct(a) as n",
    "from t group with min(a) as n, max(a or b) as m", "from t union from u except from v intersect from w",
    "from t where a union from u select -a as b where b",
    "from (from (from t) as u join (from v) as w on u.a = w.a) as x group with count as count_1",
]


class Expressions(unittest.TestCase):
    def test_canonical_texts(self):
        for text in CANONICAL:
            self.assertEqual(print_expression(condition(text)), text)

    def test_changed_texts(self):
        for text, canonical in CHANGED:
            self.assertEqual(print_expression(condition(text)), canonical)
            self.assertEqual(print_expression(condition(canonical)), canonical)

    def test_reading_gives_the_same(self):
        source = random.Random(1)
        for _ in range(1500):
            tree = trees.expression(source, source.randrange(6))
            text = print_expression(tree)
            self.assertEqual(condition(text), tree, text)

    def test_each_parenthesis_is_needed(self):
        source = random.Random(2)
        taken_out = 0
        for _ in range(800):
            tree = trees.expression(source, 5)
            text = print_expression(tree)
            for shorter in without_a_pair(text):
                taken_out += 1
                try:
                    self.assertNotEqual(condition(shorter), tree, text)
                except SourceError:
                    pass
        self.assertGreater(taken_out, 1000)


def without_a_pair(text):
    """Returns the texts in which one pair of parentheses, but those of functions, is a blank each."""
    found = []
    opened = []
    before = None
    for _, value, offset in tokens(text):
        if value == "(" and text[offset] == "(":
            opened.append((offset, before in ("missing", "length", "starts", "coalesce", "if")))
        if value == ")" and text[offset] == ")":
            start, of_function = opened.pop()
            if not of_function:
                found.append(text[:start] + " " + text[start + 1:offset] + " " + text[offset + 1:])
        before = value
    return found


class Queries(unittest.TestCase):
    def test_canonical_texts(self):
        for text in QUERIES:
            self.assertEqual(print_query(parse_query(text)), text)

    def test_as_stands_where_it_is_needed(self):
        for text, canonical in (
            ("from t as t", "from t"),
            ("from t as u", "from t as u"),
            ("from (from t as t)as t", "from (from t) as t"),
            ("from t join u as u on a", "from t join u on a"),
            ("from t select a as a, t.a as a, (a) as b, t.a as t", "from t select a, t.a, a as b, t.a as t"),
            ("from t group (a)as a with count as count1", "from t group a with count as count1"),
            ("from t select 'a' as a, -a as a", "from t select 'a' as a, -a as a"),
        ):
            self.assertEqual(print_query(parse_query(text)), canonical)

    def test_one_line(self):
        text = "from t # c\n\twhere a\nunion\nfrom (from u\n\n) as v select a,\nb"
        self.assertEqual(print_query(parse_query(text)), "from t where a union from (from u) as v select a, b")

    def test_reading_gives_the_same(self):
        source = random.Random(3)
        for _ in range(600):
            tree = trees.query(source, 2)
            text = print_query(tree)
            self.assertNotIn("\n", text)
            self.assertEqual(parse_query(text), tree, text)


class Sources(unittest.TestCase):
    def test_the_example(self):
        tree = ("step", "s", [(None, (("named", "t", "t"), [("where", ("=", ("name", "a"), ("number", 1)))]))])
        self.assertEqual(print_source([tree]), "step s =\n  from t\n  where a = 1;\n")

    def test_nothing(self):
        self.assertEqual(print_source([]), "")

    def test_tables(self):
        self.assertEqual(print_source(items("table  t( a int ,b text,c truth ) ;")), "table t (a int, b text, c truth);\n")
        self.assertEqual(print_source(items("table t(a int);table u(b int);")), "table t (a int);\ntable u (b int);\n")

    def test_steps(self):
        source = (
            "table t (a int); step r = from t as r; step s=from t where a=1 left join (from t union from t) as u on true"
            " group a,u.a as b with count as n union from t as v select a,a as b,a+1 as c except from (from r)as w"
            " intersect from t semi join t as u on a<0;"
        )
        self.assertEqual(print_source(items(source)), (
            "table t (a int);\n"
            "step r =\n"
            "  from t as r;\n"
            "step s =\n"
            "  from t\n"
            "  where a = 1\n"
            "  left join (from t union from t) as u on true\n"
            "  group a, u.a as b with count as n\n"
            "  union from t as v\n"
            "  select a, a as b, a + 1 as c\n"
            "  except from (from r) as w\n"
            "  intersect from t\n"
            "  semi join t as u on a < 0;\n"
        ))

    def test_a_query_in_parentheses_stands_in_one_line(self):
        source = "step s = from (from (from t where a) as u union from v select a) as w;"
        canonical = "step s =\n  from (from (from t where a) as u union from v select a) as w;\n"
        self.assertEqual(print_source(items(source)), canonical)

    def test_reading_gives_the_same(self):
        source = random.Random(4)
        for _ in range(300):
            made = [trees.item(source) for _ in range(source.randrange(4))]
            text = print_source(made)
            self.assertEqual(items(text), made, text)
            self.assertEqual(print_source(items(text)), text)

    def test_no_blanks_where_none_stand(self):
        source = random.Random(5)
        for _ in range(200):
            text = print_source([trees.item(source)])
            offsets = [offset for _, _, offset in tokens(text)]
            for (kind, value, offset), behind in zip(tokens(text), offsets[1:] + [len(text)]):
                if kind == "sign" and value in (";", ",", ")", "."):
                    self.assertNotEqual(text[offset - 1], " ", text)
                if kind == "sign" and value in ("(", "."):
                    self.assertEqual(behind, offset + 1, text)

    def test_an_item_alone(self):
        for text in ("table t (a int);\n", "step s =\n  from t\n  where a;\n"):
            self.assertEqual(print_source([parse_item(text)]), text)


if __name__ == "__main__":
    unittest.main()

"""Points 4, 6, 7 and 10: names, the grammar, its errors and its trees."""

import unittest

from support import SourceCase

from lineworks.parsing import parse_item, parse_query, parse_source

RESERVED = (
    "table step int text truth from as left semi anti join on where group with select union except"
    " intersect count distinct sum min max or and not div mod null true false length missing starts"
    " coalesce if"
).split()

A, B, C, D = [("name", letter) for letter in "abcd"]


def condition(text):
    """Returns the tree of an expression."""
    return parse_query(f"from t where {text}")[0][1][1][0][1]


def stages(text):
    """Returns the trees of stages."""
    return parse_query(f"from t {text}")[0][1][1]


class Expressions(unittest.TestCase):
    def same(self, text, tree):
        self.assertEqual(condition(text), tree, text)

    def test_leaves(self):
        self.same("007", ("number", 7))
        self.same("'it''s'", ("text", "it's"))
        self.same("''", ("text", ""))
        self.same("true", ("truth", 1))
        self.same("false", ("truth", 0))
        self.same("null", ("null",))
        self.same("x", ("name", "x"))
        self.same("a.x", ("field", "a", "x"))
        self.same("a . x", ("field", "a", "x"))

    def test_a_text_is_no_word_and_no_sign(self):
        self.same("'true'", ("text", "true"))
        self.same("'('", ("text", "("))
        self.same("'-'", ("text", "-"))

    def test_functions(self):
        self.same("missing(a)", ("missing", A))
        self.same("length(a)", ("length", A))
        self.same("starts(a, b)", ("starts", A, B))
        self.same("coalesce(a, b)", ("coalesce", A, B))
        self.same("if(a, b, c)", ("if", A, B, C))
        self.same("if (a or b, not c, d < 1)", ("if", ("or", A, B), ("not", C), ("<", D, ("number", 1))))

    def test_operators(self):
        for word in ("or", "and", "<", "<=", "=", "!=", ">=", ">", "+", "-", "*", "div", "mod"):
            self.same(f"a {word} b", (word, A, B))
        self.same("not a", ("not", A))
        self.same("-a", ("negate", A))

    def test_associates_to_the_left(self):
        for word in ("or", "and", "+", "-", "*", "div", "mod"):
            self.same(f"a {word} b {word} c", (word, (word, A, B), C))
            self.same(f"a {word} (b {word} c)", (word, A, (word, B, C)))
        self.same("a - b + c - d", ("-", ("+", ("-", A, B), C), D))
        self.same("a div b * c mod d", ("mod", ("*", ("div", A, B), C), D))

    def test_what_binds_more_closely(self):
        self.same("a or b and c", ("or", A, ("and", B, C)))
        self.same("a and b or c", ("or", ("and", A, B), C))
        self.same("not a and b", ("and", ("not", A), B))
        self.same("a and not b", ("and", A, ("not", B)))
        self.same("not a = b", ("not", ("=", A, B)))
        self.same("a + b < c - d", ("<", ("+", A, B), ("-", C, D)))
        self.same("a + b * c", ("+", A, ("*", B, C)))
        self.same("a * b + c", ("+", ("*", A, B), C))
        self.same("a mod b - c div d", ("-", ("mod", A, B), ("div", C, D)))
        self.same("-a * b", ("*", ("negate", A), B))
        self.same("a * -b", ("*", A, ("negate", B)))
        self.same("-a + b", ("+", ("negate", A), B))
        self.same("a - -b", ("-", A, ("negate", B)))

    def test_signs_and_not_in_a_row(self):
        self.same("not not a", ("not", ("not", A)))
        self.same("--a", ("negate", ("negate", A)))
        self.same("not --a < 1", ("not", ("<", ("negate", ("negate", A)), ("number", 1))))

    def test_parentheses(self):
        self.same("(a)", A)
        self.same("((a.x))", ("field", "a", "x"))
        self.same("(a or b) and c", ("and", ("or", A, B), C))
        self.same("-(a + b)", ("negate", ("+", A, B)))
        self.same("(a < b) < c", ("<", ("<", A, B), C))
        self.same("a = (not b)", ("=", A, ("not", B)))


class Queries(unittest.TestCase):
    def test_the_example(self):
        tree = [(None, (("named", "t", "t"), [("where", (">", ("name", "a"), ("number", 1)))]))]
        self.assertEqual(parse_query("from t where a > 1"), tree)

    def test_operands(self):
        self.assertEqual(parse_query("from t"), [(None, (("named", "t", "t"), []))])
        self.assertEqual(parse_query("from t as u"), [(None, (("named", "t", "u"), []))])
        inner = [(None, (("named", "t", "t"), [("where", A)]))]
        self.assertEqual(parse_query("from (from t where a) as u"), [(None, (("inside", inner, "u"), []))])

    def test_joins(self):
        for words, how in (("join", "inner"), ("left join", "left"), ("semi join", "semi"), ("anti join", "anti")):
            self.assertEqual(stages(f"{words} u on a"), [("join", how, ("named", "u", "u"), A)])
            self.assertEqual(stages(f"{words} u as v on a"), [("join", how, ("named", "u", "v"), A)])
        inner = [(None, (("named", "u", "u"), []))]
        self.assertEqual(stages("join (from u) as v on a"), [("join", "inner", ("inside", inner, "v"), A)])

    def test_where_and_select(self):
        self.assertEqual(stages("where a"), [("where", A)])
        self.assertEqual(stages("select a"), [("select", [(A, "a")])])
        self.assertEqual(stages("select a as b, c"), [("select", [(A, "b"), (C, "c")])])

    def test_outputs(self):
        outputs = stages("select a, t.b, (c), ((t.d)), a as a, 1 as e, (a) + b as f, -a as g")[0][1]
        self.assertEqual(outputs, [
            (A, "a"), (("field", "t", "b"), "b"), (C, "c"), (("field", "t", "d"), "d"), (A, "a"),
            (("number", 1), "e"), (("+", A, B), "f"), (("negate", A), "g"),
        ])

    def test_groups(self):
        self.assertEqual(stages("group a"), [("group", [(A, "a")], [])])
        self.assertEqual(stages("group with count as n"), [("group", [], [(("count",), "n")])])
        both = ("group", [(A, "a"), (("+", A, B), "c")], [(("count",), "n"), (("sum", A), "s")])
        self.assertEqual(stages("group a, a + b as c with count as n, sum(a) as s"), [both])

    def test_totals(self):
        for word in ("distinct", "sum", "min", "max"):
            self.assertEqual(stages(f"group with {word}(a or b) as n"), [("group", [], [((word, ("or", A, B)), "n")])])

    def test_stages_in_a_row(self):
        self.assertEqual([stage[0] for stage in stages("where a select a group a join u on a where a")],
                         ["where", "select", "group", "join", "where"])

    def test_unions(self):
        for word in ("union", "except", "intersect"):
            tree = [(None, (("named", "t", "t"), [])), (word, (("named", "u", "u"), []))]
            self.assertEqual(parse_query(f"from t {word} from u"), tree)
        tree = parse_query("from t union from u except from v intersect from w")
        self.assertEqual([how for how, _ in tree], [None, "union", "except", "intersect"])

    def test_a_stage_belongs_to_its_chain(self):
        tree = [(None, (("named", "t", "t"), [("where", A)])), ("union", (("named", "u", "u"), [("where", B)]))]
        self.assertEqual(parse_query("from t where a union from u where b"), tree)

    def test_a_query_in_parentheses_has_its_own_stages(self):
        first = (None, (("named", "t", "t"), []))
        second = ("union", (("named", "u", "u"), [("where", A)]))
        tree = [(None, (("inside", [first, second], "v"), [("where", B)]))]
        self.assertEqual(parse_query("from (from t union from u where a) as v where b"), tree)

    def test_lists_are_lists(self):
        query = parse_query("from t group a with count as n select a")
        chain = query[0][1]
        self.assertIs(type(query), list)
        self.assertIs(type(query[0]), tuple)
        self.assertIs(type(chain), tuple)
        self.assertIs(type(chain[1]), list)
        self.assertEqual([type(part) for part in chain[1][0]], [str, list, list])
        self.assertIs(type(chain[1][1][1]), list)
        self.assertIs(type(parse_item("table t (a int);")[2]), list)


class Items(SourceCase):
    def test_tables(self):
        tree = ("table", "t", [("a", "int"), ("b", "text"), ("c", "truth")])
        self.assertEqual(parse_item("table t (a int, b text, c truth);"), tree)

    def test_steps(self):
        tree = ("step", "s", [(None, (("named", "t", "t"), []))])
        self.assertEqual(parse_item("step s = from t;"), tree)

    def test_sources(self):
        self.assertEqual(parse_source(""), [])
        self.assertEqual(parse_source(" # nothing\n"), [])
        found = parse_source(" table t(a int);step s=from t;\n#c\n  table u(b int);")
        self.assertEqual([offset for _, offset in found], [1, 16, 36])
        self.assertEqual([item[:2] for item, _ in found], [("table", "t"), ("step", "s"), ("table", "u")])

    def test_the_example(self):
        self.refused(parse_item, "step s = from t", 1, 16, "expected ;")

    def test_reserved_words_are_no_names(self):
        self.assertEqual(len(RESERVED), 37)
        for word in RESERVED:
            self.refused_at(parse_item, f"table ~{word} (a int);", "expected a name")
            self.refused_at(parse_item, f"table t (~{word} int);", "expected a name")
            self.refused_at(parse_item, f"step ~{word} = from t;", "expected a name")
            self.refused_at(parse_query, f"from ~{word}", "expected a name")
            self.refused_at(parse_query, f"from t as ~{word}", "expected a name")
            self.refused_at(parse_query, f"from t where t.~{word}", "expected a name")
            self.refused_at(parse_query, f"from t select a as ~{word}", "expected a name")

    def test_case_matters(self):
        for word in RESERVED:
            for name in (word.capitalize(), word.upper(), word + "s", "_" + word):
                tree = ("table", name, [(name, "int")])
                self.assertEqual(parse_item(f"table {name} ({name} int);"), tree)
        self.refused(parse_source, "TABLE t (a int);", 1, 1, "expected table or step")
        self.refused_at(parse_item, "table t (a ~Int);", "expected int, text or truth")


ITEM_ERRORS = [
    ("~", "expected table or step"),
    ("  # only\n~", "expected table or step"),
    ("~t (a int);", "expected table or step"),
    ("~from t;", "expected table or step"),
    ("~'table' t (a int);", "expected table or step"),
    ("~;", "expected table or step"),
    ("table ~(a int);", "expected a name"),
    ("table~", "expected a name"),
    ("table ~'t' (a int);", "expected a name"),
    ("table t ~a int);", "expected ("),
    ("table t~", "expected ("),
    ("table t (~);", "expected a name"),
    ("table t (a ~);", "expected int, text or truth"),
    ("table t (a ~'int');", "expected int, text or truth"),
    ("table t (a ~, b int);", "expected int, text or truth"),
    ("table t (a int ~b int);", "expected )"),
    ("table t (a int~", "expected )"),
    ("table t (a int ~;", "expected )"),
    ("table t (a int, ~);", "expected a name"),
    ("table t (a int) ~step", "expected ;"),
    ("table t (a int)~", "expected ;"),
    ("step ~= from t;", "expected a name"),
    ("step s ~from t;", "expected ="),
    ("step s ~(from t);", "expected ="),
    ("step s = ~t;", "expected from"),
    ("step s = ~;", "expected from"),
    ("step s = from t ~u;", "expected ;"),
    ("step s = from t as u ~as v;", "expected ;"),
    ("step s = from t where a ~b;", "expected ;"),
    ("step s = from t select a ~b;", "expected ;"),
    ("step s = from t group a with count as n ~m;", "expected ;"),
    ("step s = from t where a < b ~< c;", "expected ;"),
    ("step s = from t where a = b ~!= c;", "expected ;"),
    ("step s = from t where a ~as", "expected ;"),
    ("step s = from t select a as~", "expected a name"),
]

QUERY_ERRORS = [
    ("~", "expected from"),
    ("~t", "expected from"),
    ("~(from t)", "expected from"),
    ("from~", "expected a name"),
    ("from ~where a", "expected a name"),
    ("from ~1", "expected a name"),
    ("from t as ~1", "expected a name"),
    ("from t as # end~", "expected a name"),
    ("from (~t)", "expected from"),
    ("from (~", "expected from"),
    ("from (from t~", "expected )"),
    ("from (from t ~u) as v", "expected )"),
    ("from (from t where a ~;) as v", "expected )"),
    ("from (from t)~", "expected as"),
    ("from (from t) ~u", "expected as"),
    ("from (from t) ~where a", "expected as"),
    ("from (from t) as ~where", "expected a name"),
    ("from t left ~t on a", "expected join"),
    ("from t semi~", "expected join"),
    ("from t anti ~semi join u on a", "expected join"),
    ("from t join ~on a", "expected a name"),
    ("from t join~", "expected a name"),
    ("from t left join ~'u' on a", "expected a name"),
    ("from t join u~", "expected on"),
    ("from t join u ~where a", "expected on"),
    ("from t join u as v ~a", "expected on"),
    ("from t join (from u) ~on a", "expected as"),
    ("from t join (from u) as v ~a", "expected on"),
    ("from t join u on ~where", "expected an expression"),
    ("from t where~", "expected an expression"),
    ("from t where ~where a", "expected an expression"),
    ("from t where ~)", "expected an expression"),
    ("from t where a + ~", "expected an expression"),
    ("from t where a + ~or b", "expected an expression"),
    ("from t where a + ~not b", "expected an expression"),
    ("from t where a < ~not b", "expected an expression"),
    ("from t where -~not b", "expected an expression"),
    ("from t where a and ~and b", "expected an expression"),
    ("from t where not ~", "expected an expression"),
    ("from t where -~", "expected an expression"),
    ("from t where a < ~< b", "expected an expression"),
    ("from t where ~count", "expected an expression"),
    ("from t where ~sum(a)", "expected an expression"),
    ("from t where (~)", "expected an expression"),
    ("from t where (a~", "expected )"),
    ("from t where (a ~b", "expected )"),
    ("from t where (a < b ~< c)", "expected )"),
    ("from t where a. ~1", "expected a name"),
    ("from t where a.~", "expected a name"),
    ("from t where a.b~.c", "expected the end"),
    ("from t where (a)~.c", "expected the end"),
    ("from t where 1~.c", "expected the end"),
    ("from t where missing ~a", "expected ("),
    ("from t where length~", "expected ("),
    ("from t where if ~a", "expected ("),
    ("from t where missing(~)", "expected an expression"),
    ("from t where missing(a~, b)", "expected )"),
    ("from t where length(a~", "expected )"),
    ("from t where starts(a~)", "expected ,"),
    ("from t where starts(a~", "expected ,"),
    ("from t where starts(a ~b)", "expected ,"),
    ("from t where starts(a, ~)", "expected an expression"),
    ("from t where starts(a, b~, c)", "expected )"),
    ("from t where coalesce(a~)", "expected ,"),
    ("from t where coalesce(a, b~;", "expected )"),
    ("from t where if(a~)", "expected ,"),
    ("from t where if(a, b~)", "expected ,"),
    ("from t where if(a, b ~as c)", "expected ,"),
    ("from t where if(a, b, c~, d)", "expected )"),
    ("from t group~", "expected an expression"),
    ("from t group ~where a", "expected an expression"),
    ("from t group ~count as n", "expected an expression"),
    ("from t group a, ~with count as n", "expected an expression"),
    ("from t group 1~", "expected as"),
    ("from t group 1 ~with count as n", "expected as"),
    ("from t group with~", "expected count, distinct, sum, min or max"),
    ("from t group with ~n", "expected count, distinct, sum, min or max"),
    ("from t group with ~length(a) as n", "expected count, distinct, sum, min or max"),
    ("from t group with ~'count' as n", "expected count, distinct, sum, min or max"),
    ("from t group with count as n, ~m", "expected count, distinct, sum, min or max"),
    ("from t group with count~", "expected as"),
    ("from t group with count ~n", "expected as"),
    ("from t group with count ~(a) as n", "expected as"),
    ("from t group with count as ~1", "expected a name"),
    ("from t group with sum ~a", "expected ("),
    ("from t group with max~", "expected ("),
    ("from t group with distinct(~)", "expected an expression"),
    ("from t group with sum(a~, b)", "expected )"),
    ("from t group with min(a~", "expected )"),
    ("from t group with min(a) ~n", "expected as"),
    ("from t group with min(a)~", "expected as"),
    ("from t group with min(a) as ~min", "expected a name"),
    ("from t select~", "expected an expression"),
    ("from t select ~*", "expected an expression"),
    ("from t select a,~", "expected an expression"),
    ("from t select 1~", "expected as"),
    ("from t select a + b~, c", "expected as"),
    ("from t select 'a' ~b", "expected as"),
    ("from t select missing(a)~", "expected as"),
    ("from t select -a~", "expected as"),
    ("from t select null ~where a", "expected as"),
    ("from t select a as~", "expected a name"),
    ("from t select a as ~1", "expected a name"),
    ("from t union ~u", "expected from"),
    ("from t except~", "expected from"),
    ("from t intersect ~(from u)", "expected from"),
    ("from t~;", "expected the end"),
    ("from t ~u", "expected the end"),
    ("from t ~(from u)", "expected the end"),
    ("from t where a ~as b", "expected the end"),
    ("from t where a < b ~< c", "expected the end"),
    ("from t where a ~)", "expected the end"),
    ("from t select a ~b", "expected the end"),
    ("from t ~from u", "expected the end"),
]


class Errors(SourceCase):
    def test_items(self):
        for source, message in ITEM_ERRORS:
            with self.subTest(source):
                self.refused_at(parse_item, source, message)

    def test_queries(self):
        for source, message in QUERY_ERRORS:
            with self.subTest(source):
                self.refused_at(parse_query, source, message)

    def test_the_same_errors_in_a_source(self):
        for source, message in ITEM_ERRORS:
            if source.strip().startswith("~") or source.startswith("  #"):
                continue
            with self.subTest(source):
                self.refused_at(parse_source, "table x (y int);\n" + source, message)

    def test_the_end_of_an_item(self):
        self.refused_at(parse_item, "table t (a int); ~;", "expected the end")
        self.refused_at(parse_item, "table t (a int); ~table u (b int);", "expected the end")
        self.refused_at(parse_item, "step s = from t;\n ~x", "expected the end")

    def test_the_place_at_the_end_of_the_source(self):
        self.refused(parse_query, "from t where a +\n# more\n ", 3, 2, "expected an expression")
        self.refused(parse_item, "", 1, 1, "expected table or step")
        self.refused(parse_query, "\n", 2, 1, "expected from")

    def test_between_items(self):
        self.refused_at(parse_source, "table t (a int); ~;", "expected table or step")
        self.refused_at(parse_source, "table t (a int); ~t", "expected table or step")

    def test_the_first_error_alone(self):
        self.refused_at(parse_source, "table ~1 (; step s = ; from", "expected a name")


if __name__ == "__main__":
    unittest.main()

"""Points 14, 17 and 20: the columns, the problems and the plans of queries."""

import unittest

from lineworks.errors import Problem
from lineworks.names import compile_query
from lineworks.parsing import parse_query

SEEN = [
    ("t", ("table", 0), [("a", "int"), ("b", "text"), ("c", "truth")]),
    ("u", ("table", 1), [("a", "int"), ("d", "int")]),
    ("r", ("step", 0), [("e", "truth"), ("f", "text")]),
    ("wide", ("table", 2), [(f"w{at}", "int") for at in range(8)]),
    ("broad", ("table", 3), [(f"v{at}", "int") for at in range(8)]),
    ("one", ("table", 4), [("z", "int")]),
]
A, B, C, D, E = [("column", at) for at in range(5)]
ONE = ("constant", 1)
NONE = ("constant", None)
T_COLUMNS = [("a", "int"), ("b", "text"), ("c", "truth")]


class QueryCase(unittest.TestCase):
    def plan(self, text, plan):
        self.assertEqual(compile_query(SEEN, parse_query(text))[0], plan, text)

    def columns(self, text, columns):
        self.assertEqual(compile_query(SEEN, parse_query(text))[1], columns, text)

    def refused(self, text, message):
        query = parse_query(text)
        with self.assertRaises(Problem, msg=text) as caught:
            compile_query(SEEN, query)
        self.assertEqual(caught.exception.message, message, text)


class Columns(QueryCase):
    def test_operands(self):
        self.columns("from t", T_COLUMNS)
        self.columns("from t as x", T_COLUMNS)
        self.columns("from r", [("e", "truth"), ("f", "text")])
        self.columns("from (from t) as x", T_COLUMNS)

    def test_stages(self):
        self.columns("from t join r on e", T_COLUMNS + [("e", "truth"), ("f", "text")])
        self.columns("from t left join r on e", T_COLUMNS + [("e", "truth"), ("f", "text")])
        self.columns("from t semi join r on e", T_COLUMNS)
        self.columns("from t anti join r on e", T_COLUMNS)
        self.columns("from t where c", T_COLUMNS)
        self.columns("from t select b, a + 1 as x, t.c", [("b", "text"), ("x", "int"), ("c", "truth")])
        self.columns("from t group b, a as x", [("b", "text"), ("x", "int")])
        self.columns(
            "from t group c with count as n, sum(a) as s, distinct(b) as k, min(b) as m, max(c) as x",
            [("c", "truth"), ("n", "int"), ("s", "int"), ("k", "int"), ("m", "text"), ("x", "truth")],
        )
        self.columns("from t group with min(a) as n, distinct(null) as m", [("n", "int"), ("m", "int")])
        self.columns("from t group with sum(null) as n", [("n", "int")])

    def test_unions_have_the_columns_of_the_first(self):
        for word in ("union", "except", "intersect"):
            self.columns(f"from u {word} from u select d as x, a as y", [("a", "int"), ("d", "int")])
            self.columns(f"from u select d as x, a as y {word} from u {word} from u", [("x", "int"), ("y", "int")])

    def test_names_with_their_sources(self):
        self.plan("from t where t.a = a", [("table", 0), ("filter", ("equal", A, A), 0)])
        self.plan("from t as x where x.a = a", [("table", 0), ("filter", ("equal", A, A), 0)])
        self.refused("from t as x where t.a = a", "unknown name: t.a")
        self.plan("from (from t as y) as x where x.c", [("table", 0), ("filter", C, 0)])
        self.refused("from (from t as y) as x where y.c", "unknown name: y.c")
        self.refused("from t where u.a = 1", "unknown name: u.a")

    def test_a_name_under_several_sources(self):
        self.refused("from t join u on true where a = 1", "ambiguous name: a")
        self.plan("from t join u on true where u.a = t.a select b", [
            ("table", 0), ("table", 1), ("join", ONE, 0, 1), ("filter", ("equal", D, A), 2), ("map", [B], 3),
        ])
        self.refused("from u as x join u as y on x.a = y.a select d", "ambiguous name: d")

    def test_conditions_see_both_queries(self):
        for text, condition in (("t.a = u.a", ("equal", A, D)), ("d = u.d", ("equal", E, E)), ("c", C)):
            for words, operations in (
                ("join", [("join", condition, 0, 1)]),
                ("anti join", [("anti", condition, 0, 1)]),
                ("semi join", [("anti", condition, 0, 1), ("minus", 0, 2)]),
            ):
                plan = [("table", 0), ("table", 1)] + operations
                self.plan(f"from t {words} u on {text} select b", plan + [("map", [B], len(plan) - 1)])
        for words in ("join", "left join", "anti join", "semi join"):
            self.refused(f"from t {words} u on a = 1", "ambiguous name: a")
            self.refused(f"from t as x {words} u on t.a = u.a", "unknown name: t.a")

    def test_semi_and_anti_joins_add_no_columns(self):
        for words in ("semi join", "anti join"):
            self.refused(f"from t {words} u on true where d = 1", "unknown name: d")
            self.refused(f"from t {words} u on true where u.a = 1", "unknown name: u.a")
            compile_query(SEEN, parse_query(f"from t {words} u on true where a = 1"))

    def test_no_sources_behind_group_select_and_unions(self):
        for text in (
            "from t group a {}", "from t select a {}", "from t group a with count as n {}",
            "from (from t union from t) as x {}",
        ):
            self.refused(text.format("where t.a = 1"), "unknown name: t.a")
            compile_query(SEEN, parse_query(text.format("where a = 1")))

    def test_where_keeps_the_sources(self):
        compile_query(SEEN, parse_query("from t where c where t.c semi join u on t.a = u.a where t.a = 1"))

    def test_an_alias_is_free_again_without_its_columns(self):
        compile_query(SEEN, parse_query("from t select t.a as x join t on x = a"))
        compile_query(SEEN, parse_query("from t semi join u on true anti join u on true join u on true select b"))


class Problems(QueryCase):
    def test_operands(self):
        self.refused("from x", "unknown table or step: x")
        self.refused("from T as t", "unknown table or step: T")
        self.refused("from (from x) as t", "unknown table or step: x")
        self.refused("from (from t join u on true) as x", "declared twice: a")
        self.refused("from (from t where a) as x", "expected a truth value")
        self.refused("from (from u as x join u as y on true) as z where x", "declared twice: a")

    def test_the_columns_of_the_query(self):
        self.refused("from t join u on true", "declared twice: a")
        self.refused("from u as x left join u as y on true", "declared twice: a")
        self.refused("from one join u on true join t on true join u as v on true", "declared twice: a")
        self.refused("from r join u as x on true join u as y on true join r as s on true", "declared twice: a")

    def test_the_first_name_that_is_there_before(self):
        seen = [("p", ("table", 0), [("x", "int"), ("y", "int")]), ("q", ("table", 1), [("y", "int"), ("x", "int")])]
        with self.assertRaises(Problem) as caught:
            compile_query(seen, parse_query("from p join q on true"))
        self.assertEqual(caught.exception.message, "declared twice: y")

    def test_joins(self):
        for words in ("join", "left join", "semi join", "anti join"):
            self.refused(f"from t {words} x on true", "unknown table or step: x")
            self.refused(f"from t {words} t on true", "declared twice: t")
            self.refused(f"from t {words} u as t on true", "declared twice: t")
            self.refused(f"from u join t on true {words} r as t on true", "declared twice: t")
            self.refused(f"from t {words} u on x", "unknown name: x")
            self.refused(f"from t {words} u on d", "expected a truth value")
            compile_query(SEEN, parse_query(f"from t {words} u on null select b"))

    def test_the_order_within_a_join(self):
        for words in ("join", "left join", "semi join", "anti join"):
            self.refused(f"from x {words} y on z", "unknown table or step: x")
            self.refused(f"from t where x {words} y on z", "unknown name: x")
            self.refused(f"from t {words} (from t where x) as t on y", "unknown name: x")
            self.refused(f"from t {words} (from t join u on true) as t on y", "declared twice: a")
            self.refused(f"from t {words} t on y", "declared twice: t")
            self.refused(f"from wide join broad on true {words} one on y", "unknown name: y")
            self.refused(f"from wide join broad on true {words} one on 1", "expected a truth value")
            self.refused(f"from t {words} u on true where x", "unknown name: x")

    def test_too_many_columns_by_joins(self):
        for words in ("join", "left join"):
            compile_query(SEEN, parse_query(f"from wide {words} broad on true"))
            self.refused(f"from wide join broad on true {words} one on true", "too many columns")
            self.refused(f"from wide join broad on true {words} one on true select z", "too many columns")
        for words in ("semi join", "anti join"):
            text = f"from wide join broad on true {words} wide as x on x.w0 = v0 {words} one on z = 1"
            compile_query(SEEN, parse_query(text))

    def test_where(self):
        self.refused("from t where x", "unknown name: x")
        self.refused("from t where a", "expected a truth value")
        self.refused("from t where b", "expected a truth value")
        self.refused("from t where a + b", "expected an integer")
        compile_query(SEEN, parse_query("from t where null where c where coalesce(null, null)"))

    def test_a_condition_that_is_too_large(self):
        large = " + ".join(["(" + " + ".join(["a"] * 20) + ")"] * 10)
        self.refused(f"from t where {large}", "too large")
        self.refused(f"from t where {large} = 1", "too large")
        self.refused(f"from t select {large} as x", "too large")
        self.refused(f"from t group with sum({large}) as x", "too large")
        self.refused(f"from t semi join u on {large.replace('a', 't.a')}", "too large")

    def test_outputs(self):
        for word in ("group", "select"):
            self.refused(f"from t {word} a, x", "unknown name: x")
            self.refused(f"from t {word} null as x", "unknown kind: x")
            self.refused(f"from t {word} coalesce(null, null) as x", "unknown kind: x")
            self.refused(f"from t {word} a, b as a", "declared twice: a")
            self.refused(f"from t {word} a as x, b, t.a as x, y", "declared twice: x")
            self.refused(f"from t {word} a, null as a", "unknown kind: a")
            self.refused(f"from t {word} a, -b as a", "expected an integer")
            self.refused(f"from t {word} a, b as a, x", "declared twice: a")
            self.refused(f"from t {word} x, b as y, b as y", "unknown name: x")
            self.refused(f"from t {word} null as x, y", "unknown kind: x")

    def test_too_many_columns_by_outputs(self):
        sixteen = ", ".join(f"a as x{at}" for at in range(16))
        for word in ("group", "select"):
            compile_query(SEEN, parse_query(f"from t {word} {sixteen}"))
            self.refused(f"from t {word} {sixteen}, a", "too many columns")
            self.refused(f"from t {word} {sixteen}, a, null as y", "unknown kind: y")
            self.refused(f"from t {word} {sixteen}, a, x", "unknown name: x")
            self.refused(f"from t {word} {sixteen}, a, a", "declared twice: a")

    def test_totals(self):
        for word in ("distinct", "sum", "min", "max"):
            self.refused(f"from t group with {word}(x) as n", "unknown name: x")
            self.refused(f"from t group a with count as a, {word}(x) as n", "declared twice: a")
            self.refused(f"from t group a with {word}(a) as a", "declared twice: a")
            self.refused(f"from t group a with {word}(a) as n, count as n", "declared twice: n")
            self.refused(f"from t group a with count as n, {word}(a) as n", "declared twice: n")
            self.refused(f"from t group a with {word}(-b) as a", "expected an integer")
        for word in ("min", "max"):
            self.refused(f"from t group with {word}(null) as n", "unknown kind: n")
            self.refused(f"from t group with count as n, {word}(null) as n", "unknown kind: n")
        for name in ("b", "c", "missing(a)"):
            self.refused(f"from t group with sum({name}) as n", "expected an integer")
            self.refused(f"from t group a with sum({name}) as a", "expected an integer")

    def test_keys_before_totals(self):
        self.refused("from t group a, x with sum(y) as n", "unknown name: x")
        self.refused("from t group a, b as a with sum(y) as n", "declared twice: a")
        self.refused("from t group null as x with sum(b) as n", "unknown kind: x")

    def test_too_many_columns_by_totals(self):
        eight = ", ".join(f"a as x{at}" for at in range(8))
        more = ", ".join(f"count as n{at}" for at in range(8))
        compile_query(SEEN, parse_query(f"from t group {eight} with {more}"))
        self.refused(f"from t group {eight} with {more}, count as m", "too many columns")
        self.refused(f"from t group {eight} with {more}, count as m, sum(b) as k", "expected an integer")
        self.refused(f"from t group {eight} with {more}, count as n0", "declared twice: n0")
        sixteen = ", ".join(f"count as n{at}" for at in range(16))
        compile_query(SEEN, parse_query(f"from t group with {sixteen}"))
        self.refused(f"from t group with {sixteen}, count as n", "too many columns")

    def test_unions(self):
        for word in ("union", "except", "intersect"):
            self.refused(f"from x {word} from y", "unknown table or step: x")
            self.refused(f"from t {word} from y", "unknown table or step: y")
            self.refused(f"from t join u on true {word} from y", "unknown table or step: y")
            self.refused(f"from t join u on true {word} from t where x", "unknown name: x")
            self.refused(f"from t join u on true {word} from one as x join one as y on true", "declared twice: a")
            self.refused(f"from one {word} from one as x join one as y on true", "declared twice: z")
            self.refused(f"from t {word} from u", "different columns")
            self.refused(f"from one {word} from u", "different columns")
            self.refused(f"from u {word} from one", "different columns")
            self.refused(f"from t select a, b {word} from t select b, a", "different columns")
            compile_query(SEEN, parse_query(f"from t {word} from t select a + 1 as x, b as y, c"))

    def test_the_order_within_several_unions(self):
        self.refused("from t union from u except from x", "different columns")
        self.refused("from t union from t except from x", "unknown table or step: x")
        self.refused("from t union from u join u as v on true except from x", "declared twice: a")
        self.refused("from t union from t except from u", "different columns")
        self.refused("from (from t union from u) as v union from x", "different columns")

    def test_parts_in_the_order_in_which_they_are_written(self):
        self.refused("from t where x select y", "unknown name: x")
        self.refused("from t select a where b = 'x' group c", "unknown name: b")
        self.refused("from t join (from u where x) as v on y where z", "unknown name: x")
        self.refused("from t join u on y join w on true", "unknown name: y")


class Plans(QueryCase):
    def test_the_example(self):
        seen = [("t", ("table", 0), [("a", "int")])]
        plan = [("table", 0), ("filter", ("not", ("less", ("column", 0), ("constant", 2))), 0)]
        self.assertEqual(compile_query(seen, parse_query("from t where a >= 2")), (plan, [("a", "int")]))

    def test_tables_and_steps(self):
        self.plan("from t", [("table", 0)])
        self.plan("from u as t", [("table", 1)])
        self.plan("from r", [("step", 0)])

    def test_where_and_select(self):
        self.plan("from t where c", [("table", 0), ("filter", C, 0)])
        self.plan("from t select b, -a as x, b as y", [("table", 0), ("map", [B, ("negate", A), B], 0)])

    def test_group(self):
        self.plan("from t group b", [("table", 0), ("group", [B], [], 0)])
        self.plan("from t group with count as n", [("table", 0), ("group", [], [("count",)], 0)])
        self.plan("from t group c, -a as x with count as n, distinct(b) as d, sum(a + 1) as s, min(a) as l, max(b) as g", [
            ("table", 0),
            ("group", [C, ("negate", A)], [
                ("count",), ("distinct", B), ("sum", ("add", A, ONE)), ("least", A), ("greatest", B),
            ], 0),
        ])

    def test_joins(self):
        both = [("table", 0), ("step", 0)]
        self.plan("from t join r on e", both + [("join", D, 0, 1)])
        self.plan("from t anti join r on e", both + [("anti", D, 0, 1)])
        self.plan("from t semi join r on e", both + [("anti", D, 0, 1), ("minus", 0, 2)])
        self.plan("from t left join r on e", both + [
            ("join", D, 0, 1), ("anti", D, 0, 1), ("map", [A, B, C, NONE, NONE], 3), ("union", 2, 4),
        ])

    def test_unions(self):
        both = [("table", 0), ("table", 0)]
        self.plan("from t union from t", both + [("union", 0, 1)])
        self.plan("from t except from t", both + [("minus", 0, 1)])
        self.plan("from t intersect from t", both + [("minus", 0, 1), ("minus", 0, 2)])

    def test_the_order_of_operations(self):
        self.plan("from t where c join (from u where d = 1 select a as x, d as y) as v on a = x select b", [
            ("table", 0), ("filter", C, 0), ("table", 1), ("filter", ("equal", B, ONE), 2), ("map", [A, B], 3),
            ("join", ("equal", A, D), 1, 4), ("map", [B], 5),
        ])
        self.plan("from u where a = 1 intersect from u where d = 1 union from u", [
            ("table", 1), ("filter", ("equal", A, ONE), 0), ("table", 1), ("filter", ("equal", B, ONE), 2),
            ("minus", 1, 3), ("minus", 1, 4), ("table", 1), ("union", 5, 6),
        ])
        self.plan("from u except from (from u union from u) as x", [
            ("table", 1), ("table", 1), ("table", 1), ("union", 1, 2), ("minus", 0, 3),
        ])

    def test_stages_behind_a_left_and_a_semi_join(self):
        self.plan("from one left join r on e where z = 1", [
            ("table", 4), ("step", 0), ("join", B, 0, 1), ("anti", B, 0, 1), ("map", [A, NONE, NONE], 3),
            ("union", 2, 4), ("filter", ("equal", A, ONE), 5),
        ])
        self.plan("from one semi join r on e semi join u on z = a select z", [
            ("table", 4), ("step", 0), ("anti", B, 0, 1), ("minus", 0, 2), ("table", 1),
            ("anti", ("equal", A, B), 3, 4), ("minus", 3, 5), ("map", [A], 6),
        ])

    def test_a_long_plan_is_no_problem_here(self):
        plan, _ = compile_query(SEEN, parse_query("from t" + " where c" * 60))
        self.assertEqual(len(plan), 61)

    def test_nothing_can_be_named(self):
        with self.assertRaises(Problem) as caught:
            compile_query([], parse_query("from t"))
        self.assertEqual(caught.exception.message, "unknown table or step: t")


if __name__ == "__main__":
    unittest.main()

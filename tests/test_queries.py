"""Points 24 and 25: the rows of queries, and of the steps of a pipeline for a set of input rows."""

import copy
import itertools
import random
import unittest

import by_name
import plans

from lineworks.names import compile_query
from lineworks.parsing import parse_query
from lineworks.pipelines import compile_source
from lineworks.queries import query_rows, step_rows
from lineworks.values import row_key

A, B = ("column", 0), ("column", 1)
T, U = ("table", 0), ("table", 1)


class Operations(unittest.TestCase):
    def rows(self, plan, *tables, steps=()):
        """Returns the rows of a plan, whatever the order of the rows of the tables is."""
        found = []
        for mixed in ([list(rows) for rows in tables], [list(reversed(rows)) for rows in tables],
                      [list(rows) + list(rows)[:2] for rows in tables]):
            given = copy.deepcopy((plan, mixed, list(steps)))
            found.append(query_rows(plan, mixed, list(steps)))
            self.assertEqual((plan, mixed, list(steps)), given)
        self.assertEqual(found, [found[0]] * 3)
        return found[0]

    def test_no_rows(self):
        always = ("constant", 1)
        for operation, expected in (
            (("filter", always, 0), []), (("map", [A], 0), []), (("join", always, 0, 1), []), (("union", 0, 1), []),
            (("minus", 0, 1), []), (("anti", always, 0, 1), []), (("group", [A], [], 0), []),
            (("group", [A], [("count",)], 0), []), (("group", [], [("count",)], 0), [(0,)]),
        ):
            self.assertEqual(self.rows([T, U, operation], [], []), expected)
        self.assertEqual(self.rows([T], []), [])
        self.assertEqual(query_rows([("step", 1)], [], [[(1,)], []]), [])

    def test_one_operand_without_rows(self):
        always, some = ("constant", 1), [(1,), (2,)]
        for operation, left, right in (
            (("join", always, 0, 1), [], []), (("union", 0, 1), some, some), (("minus", 0, 1), some, []),
            (("anti", always, 0, 1), some, []),
        ):
            self.assertEqual(self.rows([T, U, operation], some, []), left)
            self.assertEqual(self.rows([T, U, operation], [], some), right)

    def test_table_and_step(self):
        mixed = [("a", 1), (None, 2), (3, 0), ("", None), (3, None), ("a", 1), (-1, "z")]
        expected = [(None, 2), (-1, "z"), (3, None), (3, 0), ("", None), ("a", 1)]
        self.assertEqual(self.rows([U], [(9, 9)], mixed), expected)
        self.assertEqual(query_rows([("step", 1)], [], [[(5, 5)], mixed]), expected)

    def test_filter(self):
        rows = [(None, 1), (0, 1), (1, 1), (2, 1), (-1, 1), ("", 1), ("a", 1)]
        # Only integers other than 0 are true.
        self.assertEqual(self.rows([T, ("filter", A, 0)], rows), [(-1, 1), (1, 1), (2, 1)])
        self.assertEqual(self.rows([T, ("filter", ("less", A, ("constant", 1)), 0)], rows), [(-1, 1), (0, 1)])
        self.assertEqual(self.rows([T, ("filter", ("missing", A), 0)], rows), [(None, 1)])
        self.assertEqual(self.rows([T, ("filter", ("constant", None), 0)], rows), [])

    def test_map(self):
        rows = [(3, "a"), (1, "b"), (2, "a"), (None, "c")]
        self.assertEqual(self.rows([T, ("map", [B], 0)], rows), [("a",), ("b",), ("c",)])
        self.assertEqual(self.rows([T, ("map", [("negate", A), B, A], 0)], rows),
                         [(None, "c", None), (-3, "a", 3), (-2, "a", 2), (-1, "b", 1)])
        self.assertEqual(self.rows([T, ("map", [("constant", None), ("constant", "x")], 0)], rows), [(None, "x")])

    def test_join(self):
        first, second = [(1, "a"), (2, "b"), (None, "c"), (2, "d")], [(2,), (1,), (None,), (3,)]
        same = ("equal", A, ("column", 2))
        self.assertEqual(self.rows([T, U, ("join", same, 0, 1)], first, second),
                         [(1, "a", 1), (2, "b", 2), (2, "d", 2)])
        self.assertEqual(self.rows([T, U, ("join", ("equal", A, B), 1, 0)], first, second),
                         [(1, 1, "a"), (2, 2, "b"), (2, 2, "d")])
        unknown = ("or", ("missing", A), ("missing", ("column", 2)))
        self.assertEqual(self.rows([T, U, ("join", unknown, 0, 1)], [(1, "a"), (None, "b")], [(2,), (None,)]),
                         [(None, "b", None), (None, "b", 2), (1, "a", None)])
        self.assertEqual(len(self.rows([T, U, ("join", ("constant", 1), 0, 1)], first, second)), 16)
        self.assertEqual(self.rows([T, ("join", ("less", A, B), 0, 0)], [(3,), (1,), (2,)]), [(1, 2), (1, 3), (2, 3)])

    def test_union(self):
        self.assertEqual(self.rows([T, U, ("union", 0, 1)], [(3,), ("a",), (1,)], [(2,), (1,), (None,)]),
                         [(None,), (1,), (2,), (3,), ("a",)])
        self.assertEqual(self.rows([T, ("union", 0, 0)], [(3,), (1,)]), [(1,), (3,)])

    def test_minus(self):
        self.assertEqual(self.rows([T, U, ("minus", 0, 1)], [(3,), ("1",), (1,), (None,)], [(1,), (2,), (None,)]),
                         [(3,), ("1",)])
        self.assertEqual(self.rows([T, U, ("minus", 1, 0)], [(3,), ("1",), (1,), (None,)], [(1,), (2,), (None,)]),
                         [(2,)])
        self.assertEqual(self.rows([T, ("minus", 0, 0)], [(3,), (1,)]), [])

    def test_anti(self):
        same = ("equal", A, B)
        self.assertEqual(self.rows([T, U, ("anti", same, 0, 1)], [(3,), (1,), (None,)], [(1,), (2,), (None,)]),
                         [(None,), (3,)])
        self.assertEqual(self.rows([T, U, ("anti", ("less", A, B), 0, 1)], [(3,), (1,), (2,)], [(2,), (3,)]), [(3,)])
        self.assertEqual(self.rows([T, ("anti", ("less", A, B), 0, 0)], [(3,), (1,), (2,)]), [(3,)])

    def test_group(self):
        rows = [(1, "a"), (2, "a"), (None, "b"), (5, None), (7, None), (7, "b")]
        self.assertEqual(self.rows([T, ("group", [B], [], 0)], rows), [(None,), ("a",), ("b",)])
        self.assertEqual(self.rows([T, ("group", [B], [("count",), ("sum", A)], 0)], rows),
                         [(None, 2, 12), ("a", 2, 3), ("b", 2, 7)])
        self.assertEqual(self.rows([T, ("group", [], [("least", A), ("greatest", B), ("distinct", A)], 0)], rows),
                         [(1, "b", 4)])

    def test_keys_of_all_kinds(self):
        rows = [(None, 1), (None, 2), (0, 1), ("", 1), ("0", 1), (1, 1), ("1", 1), (1, 5)]
        self.assertEqual(self.rows([T, ("group", [A], [("count",)], 0)], rows),
                         [(None, 2), (0, 1), (1, 2), ("", 1), ("0", 1), ("1", 1)])
        self.assertEqual(self.rows([T, ("group", [A, B], [("count",)], 0)], rows),
                         [(a, b, 1) for a, b in sorted(rows, key=row_key)])
        self.assertEqual(self.rows([T, ("group", [("missing", A), ("constant", "x")], [("count",)], 0)], rows),
                         [(0, "x", 6), (1, "x", 2)])

    def test_a_group_without_keys_over_no_rows(self):
        forms = [("count",), ("distinct", A), ("sum", A), ("least", A), ("greatest", A)]
        self.assertEqual(self.rows([T, ("group", [], forms, 0)], []), [(0, 0, None, None, None)])

    def test_equal_rows_count_once(self):
        plan = [T, ("map", [A], 0), ("group", [], [("count",), ("sum", A)], 1)]
        self.assertEqual(query_rows(plan, [[(2, "a"), (2, "b"), (1, "a"), (2, "a")]], []), [(2, 3)])

    def test_the_last_operation_tells_the_rows(self):
        plan = [U, ("filter", ("less", A, ("constant", 3)), 0), T, ("union", 1, 1)]
        self.assertEqual(self.rows(plan, [(9,)], [(1,), (5,)]), [(1,)])
        self.assertEqual(self.rows(plan[:3], [(9,)], [(1,), (5,)]), [(9,)])

    def test_operations_that_name_the_same_one(self):
        plan = [T, ("filter", ("less", A, ("constant", 3)), 0), ("minus", 0, 1), ("union", 2, 1), ("minus", 3, 0),
                ("anti", ("equal", A, B), 0, 2)]
        rows = [(4,), (1,), (3,), (2,)]
        expected = [[(1,), (2,), (3,), (4,)], [(1,), (2,)], [(3,), (4,)], [(1,), (2,), (3,), (4,)], [], [(1,), (2,)]]
        for number, each in enumerate(expected):
            self.assertEqual(self.rows(plan[:number + 1], rows), each)


class DrawnPlans(unittest.TestCase):
    def test_against_a_straight_reading(self):
        source = random.Random(24)
        words = set()
        for _ in range(1500):
            widths, step_widths = [1, 2], [2]
            plan, _ = plans.plan(source, widths, step_widths, 6)
            words.update(operation[0] for operation in plan)
            tables = [[plans.row(source, width) for _ in range(source.randint(0, 5))] for width in widths]
            steps = [[plans.row(source, width) for _ in range(source.randint(0, 4))] for width in step_widths]
            kept = copy.deepcopy((plan, tables, steps))
            expected = plans.ordered(plans.read_rows(plan, tables, steps)[-1])
            found = query_rows(plan, tables, steps)
            self.assertEqual(found, expected)
            found.clear()
            self.assertEqual((plan, tables, steps), kept)
        self.assertEqual(words, {"table", "step", *plans.WORDS})


SEEN = [("t", ("table", 0), [("a", "int"), ("b", "text")]), ("u", ("table", 1), [("a", "int"), ("c", "truth")]),
        ("s", ("step", 0), [("b", "text"), ("d", "int")])]
TABLES = [[(1, "x"), (2, "y"), (2, "z"), (None, "x"), (4, None)], [(2, 1), (1, 0), (3, None), (None, 1)]]
STEPS = [[("x", 7), ("y", None), ("xy", 2)]]


class Queries(unittest.TestCase):
    def check(self, text, expected):
        plan, _ = compile_query(SEEN, parse_query(text))
        self.assertEqual(query_rows(plan, TABLES, STEPS), expected)

    def test_joins(self):
        self.check("from t join u on t.a = u.a select t.a, b, u.a as d, c",
                   [(1, "x", 1, 0), (2, "y", 2, 1), (2, "z", 2, 1)])
        self.check("from t left join u on t.a = u.a and c select t.a, b, u.a as d, c",
                   [(None, "x", None, None), (1, "x", None, None), (2, "y", 2, 1), (2, "z", 2, 1),
                    (4, None, None, None)])
        self.check("from t semi join u on t.a = u.a", [(1, "x"), (2, "y"), (2, "z")])
        self.check("from t anti join u on t.a = u.a", [(None, "x"), (4, None)])
        self.check("from s join t on starts(s.b, t.b) where t.a >= 1 select s.b, a, d",
                   [("x", 1, 7), ("xy", 1, 2), ("y", 2, None)])
        self.check("from t as v join t as w on v.a < w.a and v.b = 'x' select w.b as b, v.a",
                   [(None, 1), ("y", 1), ("z", 1)])

    def test_filters_and_selections(self):
        self.check("from t where a != 2", [(1, "x"), (4, None)])
        self.check("from t where not (a = 2)", [(1, "x"), (4, None)])
        self.check("from t where not (a = 2 and b > 'y')", [(None, "x"), (1, "x"), (2, "y"), (4, None)])
        self.check("from t where coalesce(a, 0) <= 1", [(None, "x"), (1, "x")])
        self.check("from t select a * 2 + 1 as n, if(b = 'x', 'yes', b) as m",
                   [(None, "yes"), (3, "yes"), (5, "y"), (5, "z"), (9, None)])
        self.check("from u where c select a", [(None,), (2,)])

    def test_groups(self):
        self.check("from t group b with count as n, sum(a) as m", [(None, 1, 4), ("x", 2, 1), ("y", 1, 2), ("z", 1, 2)])
        self.check("from t group with min(b) as low, max(b) as high, distinct(a) as n", [("x", "z", 3)])
        self.check("from t group missing(a) as m", [(0,), (1,)])
        self.check("from t where false group with count as n, sum(a) as m", [(0, None)])
        self.check("from t where false group b with count as n", [])

    def test_unions(self):
        self.check("from t select a union from u select a", [(None,), (1,), (2,), (3,), (4,)])
        self.check("from t select a except from u select a", [(4,)])
        self.check("from t select a intersect from u select a", [(None,), (1,), (2,)])
        self.check("from t select a except from u select a union from s select d", [(None,), (2,), (4,), (7,)])
        self.check("from t select b intersect from (from s select b union from t where a = 2 select b) as q",
                   [("x",), ("y",), ("z",)])

    def test_drawn_queries_against_a_reading_by_names(self):
        source = random.Random(25)
        words = set()
        for _ in range(300):
            tables = [[self.drawn(source, columns) for _ in range(source.randint(0, 4))] for _, _, columns in SEEN[:2]]
            steps = [[self.drawn(source, columns) for _ in range(source.randint(0, 4))] for _, _, columns in SEEN[2:]]
            query = by_name.query(source, SEEN, 2)
            plan, columns = compile_query(SEEN, query)
            words.update(operation[0] for operation in plan)
            declared = {name: ([column for column, _ in columns], rows)
                        for (name, _, columns), rows in zip(SEEN, tables + steps)}
            names, expected = by_name.rows_of_query(query, declared)
            self.assertEqual([name for name, _ in columns], [name for _, name in names])
            self.assertEqual(query_rows(plan, tables, steps), plans.ordered(expected))
        self.assertEqual(words, {"table", "step", *plans.WORDS})

    def drawn(self, source, columns):
        values = {"int": [None, 0, 1, 2, 2], "text": [None, "", "a", "ab", "b"], "truth": [None, 0, 1]}
        return tuple(source.choice(values[kind]) for _, kind in columns)


class Steps(unittest.TestCase):
    PIPELINE = compile_source("""
        table t (a int); table u (b int); table v (c int);
        step p = from t union from u;
        step q = from p anti join t on p.a = t.a;
        step r = from q group with count as n, sum(a) as m;
        step w = from p semi join q on p.a = q.a except from u;
    """)
    ENTRIES = [(4, 0, (1,)), (0, 1, (2,)), (9, 0, (2,)), (2, 1, (2,)), (7, 1, (3,)), (30, 0, (1,))]

    def test_some_sets(self):
        for present, expected in (
            ([], [[], [], [(0, None)], []]),
            ([4], [[(1,)], [], [(0, None)], []]),
            ([0, 4], [[(1,), (2,)], [(2,)], [(1, 2)], []]),
            ([7, 2, 9], [[(2,), (3,)], [(3,)], [(1, 3)], []]),
            ([0, 2, 4, 7, 9, 30], [[(1,), (2,), (3,)], [(3,)], [(1, 3)], []]),
        ):
            self.assertEqual(step_rows(self.PIPELINE.plans, self.ENTRIES, present), expected)

    def test_numbers_that_are_no_input_rows_and_numbers_twice(self):
        for present in ([0, 4], [4, 0, 4, 4, 0], [1, 0, 3, 4, 1000000], [4, 8, 0, 8]):
            kept = list(present)
            self.assertEqual(step_rows(self.PIPELINE.plans, self.ENTRIES, present),
                             [[(1,), (2,)], [(2,)], [(1, 2)], []])
            self.assertEqual(present, kept)

    def test_equal_input_rows(self):
        plan = [[T, ("group", [], [("count",), ("sum", A)], 0)]]
        entries = [(0, 0, (5,)), (1, 0, (5,)), (2, 1, (5,)), (3, 0, (6,))]
        for present, expected in (([0], (1, 5)), ([1], (1, 5)), ([0, 1], (1, 5)), ([2], (0, None)),
                                  ([0, 1, 2, 3], (2, 11))):
            self.assertEqual(step_rows(plan, entries, present), [[expected]])

    def test_a_step_that_names_earlier_steps(self):
        made = [[T], [("step", 0), ("map", [("add", A, ("constant", 1))], 0)],
                [("step", 1), ("step", 0), ("minus", 0, 1)], [("step", 2), ("step", 1), ("union", 0, 1)]]
        entries = [(0, 0, (1,)), (1, 0, (2,)), (2, 0, (4,))]
        self.assertEqual(step_rows(made, entries, [0, 1, 2]),
                         [[(1,), (2,), (4,)], [(2,), (3,), (5,)], [(3,), (5,)], [(2,), (3,), (5,)]])

    def test_no_steps_and_no_input_rows(self):
        self.assertEqual(step_rows([], self.ENTRIES, [4]), [])
        self.assertEqual(step_rows([], [], []), [])
        self.assertEqual(step_rows([[("table", 5)], [U]], [], [3]), [[], []])

    def test_against_a_straight_reading(self):
        source = random.Random(26)
        for _ in range(150):
            made, widths = [], []
            for _ in range(source.randint(1, 3)):
                plan, width = plans.plan(source, [1, 2], widths, 4)
                made.append(plan)
                widths.append(width)
            entries = []
            for number in source.sample(range(20), 4):
                table = source.randrange(2)
                entries.append((number, table, plans.row(source, table + 1)))
            kept = copy.deepcopy((made, entries))
            for number in range(5):
                for present in itertools.combinations([entry for entry, _, _ in entries], number):
                    tables = [[row for entry, at, row in entries if at == table and entry in present]
                              for table in range(2)]
                    expected = []
                    for plan in made:
                        expected.append(plans.ordered(plans.read_rows(plan, tables, expected)[-1]))
                    self.assertEqual(step_rows(made, entries, list(present)), expected)
            self.assertEqual((made, entries), kept)

    def test_results_are_new(self):
        found = step_rows([[T], [("step", 0)], [("step", 0), ("union", 0, 0)]], self.ENTRIES, [4, 9])
        for rows in found:
            self.assertEqual(rows, [(1,), (2,)])
            rows.clear()
        self.assertEqual(step_rows([[T]], self.ENTRIES, [4, 9]), [[(1,), (2,)]])


if __name__ == "__main__":
    unittest.main()

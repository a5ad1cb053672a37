"""Point 41: possible rows."""

import copy
import itertools
import random
import unittest

import plans

from lineworks.names import compile_query
from lineworks.parsing import parse_query
from lineworks.possible import possible_rows
from lineworks.queries import query_rows

A, B = ("column", 0), ("column", 1)
ALWAYS = ("constant", 1)
T, U, S = ("table", 0), ("table", 1), ("step", 0)
COUNT = [("count",)]


class Possible(unittest.TestCase):
    TABLES = [[(2,), (1,), (2,), (None,)], [(2,), ("a",), (3,)]]
    STEPS = [[(9,), (7,), (7,)], None, []]

    def last(self, operation, most=500, leaves=(T, U)):
        return possible_rows([*leaves, operation], self.TABLES, self.STEPS, most=most)[-1]

    def test_tables_and_steps(self):
        plan = [U, T, ("step", 0), ("step", 1), ("step", 2)]
        expected = [[(2,), (3,), ("a",)], [(None,), (1,), (2,)], [(7,), (9,)], None, []]
        self.assertEqual(possible_rows(plan, self.TABLES, self.STEPS), expected)
        # They have no limit.
        self.assertEqual(possible_rows(plan, self.TABLES, self.STEPS, most=0), expected)

    def test_each_operation(self):
        for operation, expected in (
            (("filter", ("less", A, ("constant", 2)), 0), [(1,)]),
            (("map", [("missing", A), ALWAYS], 0), [(0, 1), (1, 1)]),
            (("join", ("less", A, B), 0, 1), [(1, 2), (1, 3), (1, "a"), (2, 3), (2, "a")]),
            (("union", 0, 1), [(None,), (1,), (2,), (3,), ("a",)]),
            (("minus", 0, 1), [(None,), (1,), (2,)]), (("minus", 1, 0), [(2,), (3,), ("a",)]),
            (("minus", 0, 0), [(None,), (1,), (2,)]), (("anti", ALWAYS, 1, 0), [(2,), (3,), ("a",)]),
            (("group", [("missing", A)], [], 0), [(0,), (1,)]), (("group", [A, A], [], 1), [(2, 2), (3, 3), ("a", "a")]),
        ):
            self.assertEqual(self.last(operation), expected)

    def test_groups_with_totals(self):
        self.assertIsNone(self.last(("group", [A], COUNT, 0)))
        self.assertIsNone(self.last(("group", [], COUNT, 0)))
        self.assertIsNone(self.last(("group", [], COUNT, 0), leaves=[("step", 2)]))
        self.assertEqual(self.last(("group", [A], [], 0), leaves=[("step", 2)]), [])

    def test_as_many_rows_as_the_limit_and_one_more(self):
        for operation, number in ((("join", ALWAYS, 0, 1), 9), (("join", ("equal", A, B), 0, 1), 1), (("union", 0, 1), 5),
                                  (("union", 0, 0), 3)):
            self.assertEqual(len(self.last(operation, most=number)), number)
            self.assertIsNone(self.last(operation, most=number - 1))
        self.assertEqual(self.last(("join", ("constant", 0), 0, 1), most=0), [])

    def test_the_others_have_no_limit(self):
        for operation, number in ((("filter", ("less", A, ("constant", 3)), 0), 2), (("map", [A], 0), 3),
                                  (("minus", 0, 1), 3), (("anti", ALWAYS, 0, 1), 3), (("group", [A], [], 0), 3)):
            self.assertEqual(len(self.last(operation, most=0)), number)

    def test_the_limit_that_is_not_given(self):
        many = [(number,) for number in range(501)]
        plan = [T, ("map", [("constant", 0)], 0), ("join", ALWAYS, 0, 1), ("union", 0, 0), ("filter", ALWAYS, 0)]
        found = possible_rows(plan, [many[1:]], [])
        self.assertEqual([len(rows) for rows in found], [500, 1, 500, 500, 500])
        found = possible_rows(plan, [many], [])
        self.assertEqual([rows is None for rows in found], [False, False, True, True, False])
        self.assertEqual(len(found[4]), 501)

    def test_over_unknown_rows(self):
        for unknown in ([("step", 1)], [T, ("group", [A], COUNT, 0)], [T, ("join", ALWAYS, 0, 0)], [T, ("union", 0, 0)]):
            at = len(unknown) - 1
            for known in (T, ("step", 2)):
                # Whether the other operand has rows or not.
                leaves = unknown + [known]
                other = at + 1
                for operation in (
                    ("filter", ALWAYS, at), ("filter", ("constant", 0), at), ("map", [ALWAYS], at), ("group", [A], [], at),
                    ("group", [A], COUNT, at), ("join", ALWAYS, at, other), ("join", ALWAYS, other, at),
                    ("union", at, other), ("union", other, at), ("minus", at, other), ("anti", ALWAYS, at, other),
                ):
                    self.assertIsNone(self.last(operation, most=2, leaves=leaves))
                expected = [(None,), (1,), (2,)] if known == T else []
                for operation in (("minus", other, at), ("anti", ALWAYS, other, at)):
                    self.assertEqual(self.last(operation, most=2, leaves=leaves), expected)

    def test_results_are_new(self):
        plan = [T, ("minus", 0, 0), ("anti", ALWAYS, 1, 0), ("filter", ALWAYS, 2), ("step", 0)]
        tables, steps = [[(2,), (1,)]], [[(3,)]]
        found = possible_rows(plan, tables, steps)
        found[0].clear()
        found[4].clear()
        self.assertEqual(found, [[], [(1,), (2,)], [(1,), (2,)], [(1,), (2,)], []])
        found[1].append((8,))
        self.assertEqual(found[2], [(1,), (2,)])
        self.assertEqual((tables, steps), ([[(2,), (1,)]], [[(3,)]]))

    def test_against_a_straight_reading(self):
        source = random.Random(41)
        unknown = 0
        for _ in range(1000):
            plan, _ = plans.plan(source, [1, 2], [1, 2], 6)
            tables = [[plans.row(source, width) for _ in range(source.randint(0, 5))] for width in (1, 2)]
            steps = [[plans.row(source, width) for _ in range(source.randint(0, 3))] for width in (1, 2)]
            if source.random() < 0.2:
                steps[source.randrange(2)] = None
            most = source.choice([0, 1, 2, 4, 8, 500])
            kept = copy.deepcopy((plan, tables, steps))
            read = plans.read_possible(plan, tables, steps, most)
            expected = [None if rows is None else plans.ordered(rows) for rows in read]
            self.assertEqual(possible_rows(plan, tables, steps, most=most), expected)
            self.assertEqual((plan, tables, steps), kept)
            unknown += None in expected
        self.assertGreater(unknown, 200)

    def test_all_rows_that_can_come_out_are_possible(self):
        source = random.Random(42)
        for _ in range(150):
            plan, _ = plans.plan(source, [1, 2], [], 5)
            tables = [[plans.row(source, width) for _ in range(3)] for width in (1, 2)]
            possible = possible_rows(plan, tables, [])[-1]
            if possible is not None:
                for first, second in itertools.product(range(4), repeat=2):
                    for some in itertools.combinations(tables[0], first):
                        rows = query_rows(plan, [list(some), tables[1][:second]], [])
                        self.assertEqual([row for row in rows if row not in possible], [])

    def test_plans_of_queries(self):
        seen = [("t", T, [("a", "int")]), ("u", U, [("a", "text")]), ("s", S, [("a", "int")])]
        tables, steps = [[(1,), (2,)], [("x",), ("y",)]], [[(2,), (3,)]]
        for text, expected in (
            ("from t semi join s on t.a = s.a", [(1,), (2,)]), ("from t intersect from s", [(1,), (2,)]),
            ("from t left join s on t.a = s.a select t.a, s.a as b", [(1, None), (2, None), (2, 2)]),
            ("from t group with count as n", None), ("from t semi join (from u group with count as n) as v on a = n",
                                                     [(1,), (2,)]),
        ):
            plan, _ = compile_query(seen, parse_query(text))
            found = possible_rows(plan, tables, steps)
            self.assertEqual(len(found), len(plan))
            self.assertEqual(found[-1], expected)


if __name__ == "__main__":
    unittest.main()

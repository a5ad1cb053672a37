"""Points 43 and 44: origins, what plans use, and falling steps."""

import copy
import random
import unittest

import followed
import plans

from lineworks.origins import falling, origins, uses
from lineworks.pipelines import compile_source
from lineworks.queries import query_rows, step_rows

A, B = ("column", 0), ("column", 1)
YES, NO = ("constant", 1), ("constant", 0)
T, U = ("table", 0), ("table", 1)
COUNT = [("count",)]


def plans_of(steps):
    return compile_source(f"table t (a int); table u (a int); table v (a int, b text); {steps}").plans


class Origins(unittest.TestCase):
    ENTRIES = [(8, 0, (2,)), (3, 0, (1,)), (5, 0, (2,)), (0, 1, (2,)), (7, 1, (4,)), (1, 2, (2, "x")), (2, 2, (3, "x"))]

    def check(self, steps, row, expected, step=None):
        made = plans_of(steps)
        kept = copy.deepcopy((made, self.ENTRIES))
        self.assertEqual(origins(made, self.ENTRIES, len(made) - 1 if step is None else step, row), expected)
        self.assertEqual((made, self.ENTRIES), kept)

    def test_equal_rows_of_one_table(self):
        self.check("step s = from t;", (2,), [5, 8])
        self.check("step s = from t;", (1,), [3])
        self.check("step s = from t where a > 1;", (1,), [])
        self.check("step s = from t union from u;", (2,), [0, 5, 8])
        self.check("step s = from u except from t;", (2,), [0, 5, 8])
        self.check("step s = from t group with count as n;", (3,), [3, 5, 8])

    def test_rows_of_all_input_rows(self):
        # All input rows count: nothing says which of them are there.
        self.check("step s = from t semi join u on t.a < u.a;", (1,), [0, 3, 7])
        self.check("step s = from t anti join v on t.a != v.a;", (2,), [2, 5, 8])
        self.check("step s = from t join v on t.a < v.a select t.a;", (1,), [1, 2, 3])

    def test_through_a_step(self):
        self.check("step s = from t where a > 1; step r = from s union from u;", (2,), [0, 5, 8])
        # (1,) is no possible row of s, although it is one of t.
        self.check("step s = from t where a > 1; step r = from s union from u;", (1,), [])
        self.check("step s = from u; step r = from t anti join s on t.a < s.a;", (2,), [5, 7, 8])
        self.check("step s = from u; step r = from t anti join s on t.a < s.a;", (1,), [0, 3, 7])

    def test_through_several_steps(self):
        steps = """
            step s = from t where a = 2; step r = from u union from s; step q = from v select a;
            step p = from r intersect from q; step o = from p select a + 1 as b;
        """
        self.check(steps, (3,), [0, 1, 5, 8])
        self.check(steps, (4,), [])
        self.check(steps, (2,), [0, 1, 5, 8], 3)
        self.check(steps, (2,), [0, 5, 8], 1)
        self.check(steps, (3,), [2], 2)

    def test_a_step_that_is_reached_by_several_ways(self):
        steps = "step s = from t; step r = from s union from u; step q = from s join r on s.a != r.a select s.a, r.a as b;"
        self.check(steps, (1, 2), [0, 3, 5, 8])
        self.check(steps, (2, 4), [5, 7, 8])
        self.check(steps, (2, 2), [])

    def test_a_step_whose_possible_rows_are_unknown(self):
        group = "step s = from t group a with count as n;"
        # A row of it is followed, whatever its totals are.
        self.check(f"{group} step r = from s where n > 1;", (2, 9), [5, 8])
        self.check(f"{group} step r = from s where n > 1;", (2, 1), [])
        self.check(f"{group} step r = from s where n > 1;", (6, 9), [])
        # All rows of it are all input rows of what it uses.
        self.check(f"{group} step r = from s select a;", (1,), [3, 5, 8])
        self.check(f"{group} step r = from u anti join s on u.a = s.a;", (4,), [3, 5, 7, 8])
        self.check(f"{group} step r = from u anti join s on u.a = s.a;", (6,), [3, 5, 8])

    def test_all_rows_of_steps_that_use_steps(self):
        steps = """
            step s = from u where a > 100; step r = from s group a with count as n;
            step q = from r union from t select a, a as n;
        """
        self.check(f"{steps} step p = from q select n;", (1,), [0, 3, 5, 7, 8])
        # What is used through an operation that the last one does not name counts, too.
        made = [[U, T], [("step", 0), ("group", [A], COUNT, 0)], [("step", 1), ("map", [A], 0)]]
        self.assertEqual(origins(made, self.ENTRIES, 2, (1,)), [0, 3, 5, 7, 8])
        # But not if just a row of the step is followed.
        made[2] = [("step", 1), ("filter", YES, 0)]
        self.assertEqual(origins(made, self.ENTRIES, 2, (1, 1)), [3])

    def test_a_row_that_can_never_come_out(self):
        for row in ((9,), (None,), (0,)):
            self.check("step s = from t; step r = from s union from u;", row, [])
        self.check("step s = from t where false;", (2,), [])
        self.check("step s = from t group with count as n;", (77,), [3, 5, 8])
        # The rules follow what matches, although the row is in no first operand.
        self.check("step s = from t anti join u on t.a = u.a;", (4,), [7])

    def test_beyond_the_limit(self):
        for number in (500, 501):
            entries = [(at, 0, (at,)) for at in range(number)] + [(900, 1, (1,))]
            made = plans_of("step s = from t join u on true select t.a, u.a as b; step r = from s select a;")
            self.assertEqual(origins(made, entries, 1, (3,)), [3, 900] if number == 500 else [*range(501), 900])
            made = plans_of("step s = from t union from u where a > 1; step r = from s select a;")
            self.assertEqual(origins(made, entries, 1, (3,)), [3] if number == 500 else [*range(501), 900])

    def test_steps_behind_and_input_rows_that_are_not_used(self):
        self.check("step s = from t; step r = from s where a = 1 union from u;", (2,), [5, 8], 0)
        self.assertEqual(origins([[("table", 3)]], [], 0, (1,)), [])
        self.assertEqual(origins([[("table", 3)]], [(4, 3, (1,)), (2, 6, (1,))], 0, (1,)), [4])

    def test_results_are_new(self):
        made = plans_of("step s = from t;")
        origins(made, self.ENTRIES, 0, (2,)).clear()
        self.assertEqual(origins(made, self.ENTRIES, 0, (2,)), [5, 8])


def drawn(source):
    """Returns plans of a few steps, and input rows of two tables."""
    widths, made = [], []
    for _ in range(source.randint(1, 4)):
        plan, width = plans.plan(source, [1, 2], widths, 4)
        # Steps that use steps are wanted.
        widths.append(width)
        made.append(plan)
    numbers = source.sample(range(30), source.randint(1, 6))
    entries = [(number, table, plans.row(source, table + 1)) for number in numbers for table in [source.randrange(2)]]
    return made, entries, widths


class Drawn(unittest.TestCase):
    def test_against_a_straight_reading(self):
        source = random.Random(43)
        shapes = set()
        for _ in range(1000):
            made, entries, widths = drawn(source)
            step = source.randrange(len(made))
            present = [number for number, _, _ in entries if source.random() < 0.7]
            rows = step_rows(made, entries, present)[step] + [plans.row(source, widths[step])]
            for row in source.sample(rows, min(2, len(rows))):
                found = origins(made, entries, step, row)
                shapes.add((step, len(found)))
                self.assertEqual(found, followed.read_origins(made, entries, step, row))
        self.assertGreater(len(shapes), 15)

    def test_sets_that_agree_in_the_origins(self):
        source = random.Random(44)
        different = 0
        for _ in range(500):
            made, entries, _ = drawn(source)
            numbers = [number for number, _, _ in entries]
            present = [number for number in numbers if source.random() < 0.6]
            for step, rows in enumerate(step_rows(made, entries, present)):
                for row in source.sample(rows, min(2, len(rows))):
                    found = origins(made, entries, step, row)
                    for _ in range(3):
                        other = [number for number in numbers if (number in present if number in found
                                                                  else source.random() < 0.5)]
                        different += other != present
                        self.assertIn(row, step_rows(made, entries, other)[step])
        self.assertGreater(different, 500)


class Uses(unittest.TestCase):
    def test_tables_and_steps(self):
        for plan, expected in (
            ([T], ([0], [])), ([("step", 4)], ([], [4])), ([U, T, ("union", 0, 1)], ([0, 1], [])),
            ([("step", 2), U, T, ("step", 0), U, ("step", 2), ("table", 7), ("union", 0, 5)], ([0, 1, 7], [0, 2])),
        ):
            kept = copy.deepcopy(plan)
            self.assertEqual(uses(plan), expected)
            uses(plan)[0].clear()
            self.assertEqual((uses(plan), plan), (expected, kept))

    def test_queries(self):
        made = plans_of("""
            step s = from v join t on true join v as w on true select t.a;
            step r = from (from s union from u) as x semi join s on x.a = s.a intersect from s;
        """)
        self.assertEqual([uses(plan) for plan in made], [([0, 2], []), ([1], [0])])


class Falling(unittest.TestCase):
    def test_each_operation(self):
        for operation, expected in (
            (("filter", YES, 0), True), (("map", [A], 0), True), (("join", YES, 0, 1), True), (("union", 0, 1), True),
            (("minus", 0, 1), False), (("anti", NO, 0, 1), False), (("group", [A], [], 0), True),
            (("group", [A], COUNT, 0), False), (("group", [], COUNT, 0), False), (("group", [], [], 0), False),
        ):
            self.assertEqual(falling([[T, U, operation]]), [expected], operation)
            # Over an operation that does not fall.
            self.assertEqual(falling([[T, U, ("minus", 0, 1), operation[:-1] + (2,)]]), [False])
            # A step falls only if all its operations do, named or not.
            self.assertEqual(falling([[T, U, operation, ("filter", YES, 0)]]), [expected])
            self.assertEqual(falling([[T, U, operation, T]]), [expected])
        self.assertEqual(falling([[T]]), [True])
        self.assertEqual(falling([]), [])

    def test_over_steps(self):
        made = [[T], [T, T, ("minus", 0, 1)], [("step", 0), ("filter", YES, 0)], [("step", 1), ("filter", YES, 0)],
                [("step", 3), ("step", 2), ("union", 0, 1)], [("step", 2), T, ("join", YES, 0, 1)], [("step", 4), T]]
        kept = copy.deepcopy(made)
        found = falling(made)
        self.assertEqual(found, [True, False, True, False, False, True, False])
        self.assertEqual(made, kept)
        found.clear()
        self.assertEqual(len(falling(made)), 7)

    def test_queries(self):
        made = plans_of("""
            step s = from t semi join u on t.a = u.a; step r = from t left join u on t.a = u.a select t.a;
            step q = from t intersect from u; step p = from t group a union from u where a > 1;
            step o = from p join v on p.a = v.a select b; step n = from q select a;
        """)
        self.assertEqual(falling(made), [False, False, False, True, True, False])
        for told in falling(made):
            self.assertIsInstance(told, bool)

    def test_falling_steps_have_no_rows_without_what_they_have_with_it(self):
        source = random.Random(45)
        told = []
        for _ in range(600):
            plan, _ = plans.plan(source, [1, 2], [], 4, ("filter", "map", "join", "union", "group"))
            if falling([plan])[0]:
                tables = [[plans.row(source, width) for _ in range(4)] for width in (1, 2)]
                fewer = [[row for row in rows if source.random() < 0.6] for rows in tables]
                rows = query_rows(plan, fewer, [])
                told.append(len(rows))
                self.assertEqual([row for row in rows if row not in query_rows(plan, tables, [])], [])
        self.assertGreater(len([number for number in told if number]), 100)


if __name__ == "__main__":
    unittest.main()

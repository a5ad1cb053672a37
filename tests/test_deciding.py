"""Point 42: deciding rows."""

import copy
import random
import unittest

import followed
import plans

from lineworks.deciding import deciding_rows
from lineworks.names import compile_query
from lineworks.parsing import parse_query
from lineworks.queries import query_rows

A, B, C = ("column", 0), ("column", 1), ("column", 2)
YES, NO = ("constant", 1), ("constant", 0)
T, U, S = ("table", 0), ("table", 1), ("step", 0)
COUNT = [("count",)]
EQUAL = ("equal", A, B)


def of_t(*rows):
    return [(0, 0, row) for row in rows]


def of_u(*rows):
    return [(0, 1, row) for row in rows]


class Operations(unittest.TestCase):
    TABLES = [[(2,), (1,), (2,), (None,)], [(2,), ("a",), (3,)]]
    STEPS = [[(9,), (7,), (2,)]]
    # Operations whose possible rows are unknown, over t alone.
    UNKNOWN = [("group", [A], COUNT, 0), ("map", [A], 2)]

    def check(self, operations, row, expected, leaves=(T, U)):
        plan = [*leaves, *operations]
        kept = copy.deepcopy((plan, self.TABLES, self.STEPS))
        self.assertEqual(deciding_rows(plan, self.TABLES, self.STEPS, row), expected)
        self.assertEqual((plan, self.TABLES, self.STEPS), kept)

    def test_table_and_step(self):
        for row in ((1,), (2,), (None,)):
            self.check([], row, of_t(row), [T])
        for row in ((3,), ("1",), (0,)):
            self.check([], row, [], [T])
        self.check([], (9,), [(1, 0, (9,))], [T, S])
        self.check([], (1,), [], [T, S])

    def test_filter(self):
        less = ("less", A, ("constant", 2))
        self.check([("filter", less, 0)], (1,), of_t((1,)))
        self.check([("filter", less, 0)], (2,), [])
        self.check([("filter", less, 0)], (None,), [])
        # The condition is true, but there is no such row.
        self.check([("filter", less, 0)], (0,), [])

    def test_map(self):
        self.check([("map", [("missing", A), YES], 0)], (0, 1), of_t((1,), (2,)))
        self.check([("map", [("missing", A), YES], 0)], (1, 1), of_t((None,)))
        self.check([("map", [("missing", A), YES], 0)], (1, 0), [])
        self.check([("map", [("add", A, YES)], 0)], (None,), of_t((None,)))
        self.check([("map", [("add", A, YES)], 0)], (1,), [])

    def test_map_over_unknown_rows(self):
        everything = of_t((None,), (1,), (2,))
        self.check([("group", [A], COUNT, 0), ("map", [A], 2)], (1,), everything)
        self.check([("group", [A], COUNT, 0), ("map", [A], 2)], (77,), everything)
        # Only what the operand uses.
        self.check([("group", [A], COUNT, 1), ("map", [A], 2)], (1,), of_u((2,), (3,), ("a",)))
        self.check([("group", [A], COUNT, 0), ("filter", NO, 2), ("map", [A], 3)], (1,), everything)

    def test_join(self):
        unequal = ("not", EQUAL)
        self.check([("join", unequal, 0, 1)], (1, 3), of_t((1,)) + of_u((3,)))
        # The condition is not true, or the row is put together from none.
        self.check([("join", unequal, 0, 1)], (2, 2), [])
        self.check([("join", unequal, 0, 1)], (None, 2), [])
        self.check([("join", unequal, 0, 1)], (1, 4), [])
        self.check([("join", unequal, 0, 1)], (4, 2), [])
        self.check([("join", YES, 0, 0)], (1, 2), of_t((1,), (2,)))
        self.check([("filter", NO, 1), ("join", YES, 0, 2)], (1, 2), [])
        self.check([("filter", NO, 1), ("join", YES, 2, 0)], (2, 1), [])

    def test_join_of_wider_rows(self):
        pairs = [("join", YES, 0, 1), ("join", ("equal", B, C), 2, 1)]
        self.check(pairs, (1, 3, 3), of_t((1,)) + of_u((3,)))
        self.check(pairs, (1, 3, 2), [])
        self.check([("join", YES, 0, 1), ("join", YES, 1, 2)], ("a", 1, 3), of_t((1,)) + of_u((3,), ("a",)))

    def test_join_of_unknown_rows(self):
        everything = of_t((None,), (1,), (2,)) + of_u((2,), (3,), ("a",))
        for condition in (YES, NO, EQUAL):
            for first, second in ((3, 1), (1, 3)):
                for row in ((1, 2), (8, 9)):
                    self.check(self.UNKNOWN + [("join", condition, first, second)], row, everything)
            self.check(self.UNKNOWN + [("join", condition, 3, 3)], (1, 1), everything[:3])
        # Also if the other operand has no possible rows.
        self.check(self.UNKNOWN + [("filter", NO, 1), ("join", YES, 3, 4)], (1, 1), everything)

    def test_union_and_minus(self):
        for word in ("union", "minus"):
            self.check([(word, 0, 1)], (2,), of_t((2,)) + of_u((2,)))
            self.check([(word, 0, 1)], (1,), of_t((1,)))
            self.check([(word, 0, 1)], (3,), of_u((3,)))
            self.check([(word, 0, 1)], (4,), [])
            self.check([(word, 0, 0)], (2,), of_t((2,)))
            self.check([("filter", ("equal", A, YES), 0), (word, 1, 2)], (2,), of_u((2,)))
            # Rows that are unknown say nothing here: r is followed in both.
            self.check(self.UNKNOWN + [(word, 3, 1)], (3,), of_t((None,), (1,), (2,)) + of_u((3,)))

    def test_anti(self):
        anti = ("anti", ("less", A, B), 0, 1)
        self.check([anti], (1,), of_t((1,)) + of_u((2,), (3,), ("a",)))
        self.check([anti], (2,), of_t((2,)) + of_u((3,), ("a",)))
        self.check([anti], (None,), of_t((None,)))
        # What matches counts even if r is no row of the first operand.
        self.check([anti], (3,), of_u(("a",)))
        self.check([("anti", EQUAL, 0, 0)], (2,), of_t((2,)))
        self.check([("filter", ("equal", A, YES), 1), ("anti", YES, 0, 2)], (1,), of_t((1,)))

    def test_anti_with_unknown_rows(self):
        # On the second side all rows count, whether they match or not.
        second = of_u((2,), (3,), ("a",))
        for condition in (YES, NO):
            self.check([("group", [A], COUNT, 1), ("anti", condition, 0, 2)], (1,), of_t((1,)) + second)
            self.check([("group", [A], COUNT, 1), ("anti", condition, 0, 2)], (8,), second)
        # On the first side r is followed.
        self.check([("group", [A], COUNT, 0), ("anti", ("equal", A, C), 2, 1)], (2, 1), of_t((2,)) + of_u((2,)))

    def test_group_with_keys(self):
        for totals in ([], COUNT, [("sum", A), ("count",)]):
            more = tuple(8 for _ in totals)
            self.check([("group", [("missing", A)], totals, 0)], (0,) + more, of_t((1,), (2,)))
            self.check([("group", [("missing", A)], totals, 0)], (1,) + more, of_t((None,)))
            self.check([("group", [("missing", A)], totals, 0)], (2,) + more, [])
            self.check([("group", [A, YES], totals, 0)], (2, 1) + more, of_t((2,)))
            self.check([("group", [A, YES], totals, 0)], (2, 0) + more, [])

    def test_group_without_keys(self):
        for row in ((3,), (0,), (None,)):
            self.check([("group", [], COUNT, 0)], row, of_t((None,), (1,), (2,)))
        self.check([("filter", ("less", A, ("constant", 2)), 0), ("group", [], COUNT, 2)], (3,), of_t((1,)))
        self.check([("filter", NO, 0), ("group", [], COUNT, 2)], (0,), [])

    def test_group_over_unknown_rows(self):
        for keys, totals, row in (([A], [], (1,)), ([A], COUNT, (1, 1)), ([], COUNT, (2,)), ([A], [], (77,))):
            self.check([("group", [A], COUNT, 0), ("group", keys, totals, 2)], row, of_t((None,), (1,), (2,)))

    def test_a_group_of_a_group(self):
        # Those of the inner group are unknown, but the filter over it follows its row.
        inner = [("group", [A], COUNT, 0), ("filter", ("less", ("constant", 0), B), 2)]
        self.check(inner, (2, 1), of_t((2,)))
        self.check(inner, (2, 0), [])


class Plans(unittest.TestCase):
    def test_a_step_whose_rows_are_unknown(self):
        # Each row may be one of it.
        self.assertEqual(deciding_rows([S, ("filter", YES, 0)], [], [None], (4,)), [(1, 0, (4,))])

    def test_the_order(self):
        plan = [("step", 1), U, T, ("step", 0), ("union", 0, 1), ("union", 2, 4), ("union", 3, 5), ("map", [], 6)]
        rows = [[("a",), (None,), (2,), (1,), (1,)], [(10,), (9,)]]
        self.assertEqual(deciding_rows(plan, rows, rows, ()),
                         [(is_step, index, row) for is_step in (0, 1) for index, row in
                          ((0, (None,)), (0, (1,)), (0, (2,)), (0, ("a",)), (1, (9,)), (1, (10,)))])

    def test_a_row_by_several_ways_is_told_once(self):
        plan = [T, T, ("union", 0, 1), ("filter", YES, 2), ("union", 2, 3), ("join", YES, 4, 2), ("map", [A], 5)]
        self.assertEqual(deciding_rows(plan, [[(2,), (1,), (2,)]], [], (1,)), of_t((1,), (2,)))

    def test_many_ways(self):
        # Each union doubles the number of ways.
        plan = [T] + [("union", at, at) for at in range(38)] + [("minus", 38, 37)]
        self.assertEqual(deciding_rows(plan, [[(2,), (1,)]], [], (1,)), of_t((1,)))

    def test_a_join_and_a_union_beyond_their_limit(self):
        for number in (500, 501):
            many = [(at,) for at in range(number)]
            tables = [many, [("x",)]]
            everything = number == 501
            plan = [T, U, ("join", YES, 0, 1), ("map", [A], 2)]
            expected = of_t(*(many if everything else [(3,)])) + of_u(("x",))
            self.assertEqual(deciding_rows(plan, tables, [], (3,)), expected)
            plan = [T, U, ("filter", ("equal", A, ("constant", 3)), 1), ("union", 0, 2), ("map", [A], 3)]
            expected = of_t(*many) + of_u(("x",)) if everything else of_t((3,))
            self.assertEqual(deciding_rows(plan, tables, [], (3,)), expected)

    def test_operations_that_the_last_one_does_not_name(self):
        plan = [U, ("group", [], COUNT, 0), T, ("filter", YES, 2)]
        self.assertEqual(deciding_rows(plan, [[(1,)], [(1,)]], [], (1,)), of_t((1,)))

    def test_queries(self):
        seen = [("t", T, [("a", "int")]), ("u", U, [("a", "int")]), ("s", S, [("a", "int")])]
        tables, steps = [[(1,), (2,), (3,)], [(2,), (3,)]], [[(2,), (5,)]]
        for text, row, expected in (
            ("from t left join u on t.a = u.a select t.a, u.a as b", (2, None), of_t((2,)) + of_u((2,))),
            ("from t left join u on t.a = u.a select t.a, u.a as b", (1, None), of_t((1,))),
            ("from t left join u on t.a = u.a select t.a, u.a as b", (2, 2), of_t((2,)) + of_u((2,))),
            ("from t semi join u on t.a < u.a", (2,), of_t((2,)) + of_u((3,))),
            ("from t intersect from s", (2,), of_t((2,)) + [(1, 0, (2,))]),
            ("from t intersect from s", (5,), [(1, 0, (5,))]),
            ("from t except from u", (1,), of_t((1,))),
            ("from t semi join (from u group with count as n) as v on a = n", (2,), of_t((2,)) + of_u((2,), (3,))),
        ):
            plan, _ = compile_query(seen, parse_query(text))
            self.assertEqual(deciding_rows(plan, tables, steps, row), expected, text)

    def test_results_are_new(self):
        plan, tables = [T, ("map", [], 0)], [[(2,), (1,)]]
        deciding_rows(plan, tables, [], ()).clear()
        self.assertEqual(deciding_rows(plan, tables, [], ()), of_t((1,), (2,)))
        self.assertEqual(tables, [[(2,), (1,)]])


def drawn(source, most=6):
    """Returns a plan, rows of two tables and two steps, and a row that may come out of the plan."""
    plan, width = plans.plan(source, [1, 2], [1, 2], most)
    tables = [[plans.row(source, each) for _ in range(source.randint(0, 5))] for each in (1, 2)]
    steps = [[plans.row(source, each) for _ in range(source.randint(0, 3))] for each in (1, 2)]
    some = [[[row for row in rows if source.random() < 0.7] for rows in given] for given in (tables, steps)]
    rows = query_rows(plan, *source.choice([(tables, steps), some]))
    row = source.choice(rows) if rows and source.random() < 0.9 else plans.row(source, width)
    return plan, tables, steps, row


class Drawn(unittest.TestCase):
    def test_against_a_straight_reading(self):
        source = random.Random(42)
        numbers = set()
        for _ in range(1500):
            plan, tables, steps, row = drawn(source)
            kept = copy.deepcopy((plan, tables, steps))
            found = deciding_rows(plan, tables, steps, row)
            numbers.add(len(found))
            self.assertEqual(found, followed.read_deciding(plan, tables, steps, row))
            self.assertEqual((plan, tables, steps), kept)
        self.assertGreater(len(numbers), 5)

    def test_rows_that_do_not_decide_can_be_taken_away(self):
        source = random.Random(43)
        taken = 0
        for _ in range(600):
            plan, tables, steps, row = drawn(source)
            comes_out = row in query_rows(plan, tables, steps)
            deciding = set(deciding_rows(plan, tables, steps, row))
            for share in (0, 0.5, 0.5, 0.5):
                left = [[[each for each in rows if (is_step, index, each) in deciding or source.random() < share]
                         for index, rows in enumerate(given)] for is_step, given in enumerate((tables, steps))]
                taken += left != [tables, steps]
                self.assertEqual(row in query_rows(plan, *left), comes_out)
        self.assertGreater(taken, 1000)


if __name__ == "__main__":
    unittest.main()

"""Points 35, 38 and 40: candidates of tables, operations, plans and pipelines."""

import copy
import random
import unittest

import models
import plans

from lineworks.carrying import candidates, condition_of, entry_candidates, pipeline_candidates
from lineworks.diagrams import Diagrams
from lineworks.pipelines import compile_source
from lineworks.queries import query_rows, step_rows
from lineworks.values import row_key

A, B = ("column", 0), ("column", 1)
T, U = ("table", 0), ("table", 1)


def drawn_entries(source, number, widths=(1, 2)):
    """Returns input rows whose numbers are in some order."""
    found = []
    for entry in source.sample(range(30), number):
        table = source.randrange(len(widths))
        found.append((entry, table, plans.row(source, widths[table])))
    return found


def rows_for(store, found, choice):
    """Returns the rows of candidates that come out for a choice."""
    return [row for row, condition in found if store.holds(condition, sorted(choice))]


def present_rows(entries, table, choice):
    return [row for number, at, row in entries if at == table and number in choice]


class Tables(unittest.TestCase):
    ENTRIES = [(7, 0, (2,)), (3, 1, (1,)), (0, 0, (None,)), (5, 0, ("a",)), (2, 0, (2,)), (9, 1, (2,)), (1, 0, (2,))]

    def test_equal_rows_and_rows_of_other_tables(self):
        store = Diagrams()
        either = store.disjunction(store.there(1), store.disjunction(store.there(2), store.there(7)))
        kept = copy.deepcopy(self.ENTRIES)
        self.assertEqual(entry_candidates(store, self.ENTRIES, 0),
                         [((None,), store.there(0)), ((2,), either), (("a",), store.there(5))])
        self.assertEqual(entry_candidates(store, self.ENTRIES, 1), [((1,), store.there(3)), ((2,), store.there(9))])
        self.assertEqual(entry_candidates(store, self.ENTRIES, 2), [])
        self.assertEqual(entry_candidates(store, [], 0), [])
        self.assertEqual(self.ENTRIES, kept)

    def test_against_all_choices(self):
        source = random.Random(35)
        for _ in range(60):
            entries = drawn_entries(source, source.randint(0, 5))
            store = Diagrams()
            for table in (0, 1):
                found = entry_candidates(store, entries, table)
                rows = [row for row, _ in found]
                self.assertEqual(rows, sorted(set(rows), key=row_key))
                for choice in models.subsets([number for number, _, _ in entries]):
                    expected = plans.ordered(set(present_rows(entries, table, choice)))
                    self.assertEqual(rows_for(store, found, choice), expected)

    def test_condition_of(self):
        store = Diagrams()
        found = entry_candidates(store, self.ENTRIES, 0)
        kept = list(found)
        self.assertEqual(condition_of(found, ("a",)), store.there(5))
        self.assertEqual(condition_of(found, (None,)), store.there(0))
        self.assertEqual(store.depends(condition_of(found, (2,))), [1, 2, 7])
        for row in ((1,), ("2",), (2, 2), ()):
            self.assertEqual(condition_of(found, row), 0)
        self.assertEqual(condition_of([], (2,)), 0)
        self.assertEqual(found, kept)


class Operations(unittest.TestCase):
    def setUp(self):
        self.store = Diagrams()
        self.a, self.b, self.c, self.d = [self.store.there(number) for number in range(4)]

    def all_of(self, *conditions):
        made = 1
        for condition in conditions:
            made = self.store.conjunction(made, condition)
        return made

    def any_of(self, *conditions):
        made = 0
        for condition in conditions:
            made = self.store.disjunction(made, condition)
        return made

    def no(self, condition):
        return self.store.negation(condition)

    def check(self, operation, first, second, expected):
        """Checks the candidates of an operation over those of two tables, and over those of two steps."""
        for leaves, given in (([T, U], ([first, second], [])), ([("step", 0), ("step", 1)], ([], [first, second]))):
            plan = leaves + [operation]
            kept = copy.deepcopy((plan, given))
            self.assertEqual(candidates(self.store, plan, *given), expected)
            self.assertEqual((plan, given), kept)

    def test_table_and_step(self):
        first, second = [((1,), self.a)], [((2,), self.b), ((3,), 1)]
        self.assertEqual(candidates(self.store, [T, U], [first, second], []), second)
        self.assertEqual(candidates(self.store, [("step", 1)], [], [first, second]), second)
        self.assertEqual(candidates(self.store, [T], [[]], []), [])

    def test_results_are_new(self):
        given = [((2,), self.b), ((3,), 1)]
        for plan in ([T], [T, ("filter", ("constant", 1), 0)], [T, ("minus", 0, 0), ("minus", 0, 1)],
                     [T, ("union", 0, 0)]):
            candidates(self.store, plan, [given], []).clear()
            self.assertEqual(candidates(self.store, plan, [given], []), [((2,), self.b), ((3,), 1)])
        candidates(self.store, [("step", 0)], [], [given]).clear()
        self.assertEqual(len(given), 2)

    def test_filter(self):
        first = [((None,), self.a), ((0,), self.b), ((3,), self.c), (("a",), 1)]
        self.check(("filter", A, 0), first, [], [((3,), self.c)])
        self.check(("filter", ("not", ("less", A, ("constant", 3))), 0), first, [], [((3,), self.c), (("a",), 1)])

    def test_map(self):
        first = [((1, "x"), self.a), ((1, "y"), self.b), ((2, "x"), self.c)]
        self.check(("map", [A], 0), first, [], [((1,), self.any_of(self.a, self.b)), ((2,), self.c)])
        self.check(("map", [("negate", A), B], 0), first, [],
                   [((-2, "x"), self.c), ((-1, "x"), self.a), ((-1, "y"), self.b)])
        self.check(("map", [A], 0), [((1, "x"), self.a), ((1, "y"), self.no(self.a))], [], [((1,), 1)])

    def test_join(self):
        first, second = [((1,), self.a), ((2,), self.b)], [((1,), self.c), ((2,), self.no(self.b)), ((3,), 1)]
        self.check(("join", ("not", ("less", B, A)), 0, 1), first, second,
                   [((1, 1), self.all_of(self.a, self.c)), ((1, 2), self.all_of(self.a, self.no(self.b))),
                    ((1, 3), self.a), ((2, 3), self.b)])

    def test_union(self):
        first, second = [((1,), self.a), ((3,), self.b)], [((1,), self.c), ((2,), self.d), ((3,), self.no(self.b))]
        self.check(("union", 0, 1), first, second,
                   [((1,), self.any_of(self.a, self.c)), ((2,), self.d), ((3,), 1)])

    def test_minus(self):
        first = [((1,), self.a), ((2,), self.b), ((3,), self.c), ((4,), 1)]
        second = [((0,), 1), ((1,), self.a), ((2,), self.no(self.d)), ((4,), self.d)]
        self.check(("minus", 0, 1), first, second,
                   [((2,), self.all_of(self.b, self.d)), ((3,), self.c), ((4,), self.no(self.d))])

    def test_anti(self):
        first = [((1,), self.a), ((2,), 1), ((3,), self.c)]
        second = [((1,), self.b), ((2,), self.c), ((3,), self.d)]
        self.check(("anti", ("less", A, B), 0, 1), first, second,
                   [((1,), self.all_of(self.a, self.no(self.any_of(self.c, self.d)))), ((2,), self.no(self.d)),
                    ((3,), self.c)])
        self.check(("anti", ("equal", A, B), 0, 1), first, [((1,), self.a), ((2,), 1), ((3,), self.any_of(self.c))], [])

    def test_group_without_totals(self):
        first = [((1, "x"), self.a), ((2, "y"), self.b), ((3, "x"), self.c), ((4, None), self.d)]
        self.check(("group", [B], [], 0), first, [],
                   [((None,), self.d), (("x",), self.any_of(self.a, self.c)), (("y",), self.b)])
        self.check(("group", [B], [], 0), [], [], [])

    def test_group_with_keys(self):
        first = [((1, "x"), self.a), ((2, "y"), self.b), ((3, "x"), self.c)]
        only_a, only_c = self.all_of(self.a, self.no(self.c)), self.all_of(self.c, self.no(self.a))
        both = self.all_of(self.a, self.c)
        self.check(("group", [B], [("count",)], 0), first, [],
                   [(("x", 1), self.any_of(only_a, only_c)), (("x", 2), both), (("y", 1), self.b)])
        self.check(("group", [B], [("sum", A), ("count",)], 0), first, [],
                   [(("x", 1, 1), only_a), (("x", 3, 1), only_c), (("x", 4, 2), both), (("y", 2, 1), self.b)])
        self.check(("group", [B], [("sum", A), ("count",)], 0), [], [], [])

    def test_group_without_keys(self):
        first = [((1, "x"), self.a), ((2, "y"), self.b)]
        none, both = self.no(self.any_of(self.a, self.b)), self.all_of(self.a, self.b)
        only_a, only_b = self.all_of(self.a, self.no(self.b)), self.all_of(self.b, self.no(self.a))
        self.check(("group", [], [("sum", A)], 0), first, [],
                   [((None,), none), ((1,), only_a), ((2,), only_b), ((3,), both)])
        self.check(("group", [], [("count",), ("greatest", B)], 0), first, [],
                   [((0, None), none), ((1, "x"), only_a), ((1, "y"), only_b), ((2, "y"), both)])
        self.check(("group", [], [("count",), ("least", B)], 0), [], [], [((0, None), 1)])
        self.check(("group", [], [("count",)], 0), [((1, "x"), 1)], [], [((1,), 1)])

    def test_by_all_choices(self):
        source = random.Random(38)
        for at in range(700):
            word = plans.WORDS[at % len(plans.WORDS)]
            plan = plans.plan_with(source, [1, 2], [2], word)
            entries = drawn_entries(source, source.choice([0, 4, 6, 6]))
            store = Diagrams()
            tables = [entry_candidates(store, entries, table) for table in (0, 1)]
            step = plans.plan(source, [2], [], 1, ("filter", "union", "minus"))[0]
            steps = [candidates(store, step, tables[1:], [])]
            found = candidates(store, plan, tables, steps)
            self.assertEqual([row for row, _ in found], plans.ordered({row for row, _ in found}))
            self.assertNotIn(0, [condition for _, condition in found])
            seen = set()
            for choice in models.subsets([number for number, _, _ in entries]):
                present = [present_rows(entries, table, choice) for table in (0, 1)]
                expected = query_rows(plan, present, [rows_for(store, steps[0], choice)])
                self.assertEqual(rows_for(store, found, choice), expected)
                seen.update(expected)
            self.assertEqual({row for row, _ in found}, seen)


class Pipelines(unittest.TestCase):
    def test_the_example(self):
        store = Diagrams()
        made = compile_source("table t (a int); table u (b int); step s = from t anti join u on a = b;").plans
        entries = [(0, 0, (4,)), (1, 1, (4,))]
        found, = pipeline_candidates(store, made, entries, 2)
        self.assertEqual([row for row, _ in found], [(4,)])
        self.assertEqual(store.table(condition_of(found, (4,))), ([(1, 1, 0), (0, 0, 2)], 3))

    def test_steps_over_steps(self):
        store = Diagrams()
        made = compile_source("""
            table t (a int); table u (a int);
            step s = from t union from u; step r = from s except from u; step q = from r group with count as n;
        """).plans
        entries = [(0, 0, (1,)), (1, 1, (1,)), (2, 1, (2,))]
        alone = store.conjunction(store.there(0), store.negation(store.there(1)))
        self.assertEqual(pipeline_candidates(store, made, entries, 2), [
            [((1,), store.disjunction(store.there(0), store.there(1))), ((2,), store.there(2))], [((1,), alone)],
            [((0,), store.negation(alone)), ((1,), alone)],
        ])

    def test_no_steps_no_tables_and_no_input_rows(self):
        store = Diagrams()
        self.assertEqual(pipeline_candidates(store, [], [(0, 0, (1,))], 1), [])
        self.assertEqual(pipeline_candidates(store, [[("table", 2)], [T, ("group", [], [("count",)], 0)]], [], 3),
                         [[], [((0,), 1)]])

    def test_against_all_choices(self):
        source = random.Random(40)
        for _ in range(400):
            made, widths = [], []
            for _ in range(source.randint(1, 3)):
                plan, width = plans.plan(source, [1, 2], widths, 4)
                made.append(plan)
                widths.append(width)
            entries = drawn_entries(source, source.choice([0, 4, 6, 6]))
            kept = copy.deepcopy((made, entries))
            store = Diagrams()
            found = pipeline_candidates(store, made, entries, 2)
            self.assertEqual((made, entries), kept)
            for choice in models.subsets([number for number, _, _ in entries]):
                self.assertEqual([rows_for(store, each, choice) for each in found],
                                 step_rows(made, entries, sorted(choice)))

    def test_sources_against_all_choices(self):
        made = compile_source("""
            table t (a int, b text); table u (a int);
            step s = from t left join u on t.a = u.a select b, coalesce(u.a, 0 - t.a) as n;
            step r = from s group b with sum(n) as m, count as k;
            step q = from t semi join (from r where m > 1) as x on t.b = x.b intersect from t where a != 2;
        """).plans
        entries = [(0, 0, (1, "x")), (2, 0, (2, "x")), (3, 1, (1,)), (5, 1, (2,)), (6, 0, (1, "y")), (9, 0, (None, "y")),
                   (11, 1, (1,))]
        store = Diagrams()
        found = pipeline_candidates(store, made, entries, 2)
        self.assertTrue(all(found))
        for choice in models.subsets([number for number, _, _ in entries]):
            self.assertEqual([rows_for(store, each, choice) for each in found],
                             step_rows(made, entries, sorted(choice)))


if __name__ == "__main__":
    unittest.main()

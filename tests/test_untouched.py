"""Point 2: arguments are not modified, and lists that are returned are new."""

import copy
import random
import unittest

import trees

from lineworks.blame import blame
from lineworks.carrying import candidates, condition_of, entry_candidates, pipeline_candidates
from lineworks.cases import cases
from lineworks.chances import chance, chances_given
from lineworks.changes import changes
from lineworks.cheapest import cheapest
from lineworks.deciding import deciding_rows
from lineworks.diagrams import Diagrams
from lineworks.errors import (
    Problem, SourceError, TooManyCases, TooManyChanges, TooManyQuestions, TooManyReasons, TooManyRows,
)
from lineworks.kept import edit_version, open_version
from lineworks.kinds import compile_expression
from lineworks.limits import Way
from lineworks.names import compile_query
from lineworks.origins import falling, origins, uses
from lineworks.outcomes import none_of, outcomes
from lineworks.parsing import parse_item, parse_query, parse_source
from lineworks.pipelines import Pipeline, append_step, check_source, compile_source, define_step, drop_step
from lineworks.possible import possible_rows
from lineworks.printing import print_expression, print_query, print_source
from lineworks.queries import query_rows, step_rows
from lineworks.reasons import reasons
from lineworks.shares import shares
from lineworks.states import total_values
from lineworks.tokens import tokens
from lineworks.totals import total
from lineworks.values import evaluate, row_key
from lineworks.versions import are_equal, compare, separate, since


def lists_in(value):
    """Returns all lists within a value, itself included."""
    if isinstance(value, (list, tuple)):
        inner = [found for part in value for found in lists_in(part)]
        return inner + [value] if isinstance(value, list) else inner
    return []


def empty(value):
    """Empties all lists within a value."""
    for found in lists_in(value):
        found.clear()


SOURCE = """
table t (a int, b text, c truth);
table u (a int);
step s = from t left join (from u union from u) as v on t.a = v.a where c group b with sum(t.a) as a;
step r = from s join u on s.a = u.a select b, u.a except from s;
"""
QUERY = "from (from t where c) as u semi join t on u.a = t.a group u.a as b with count as n select b, n"


class Stage1(unittest.TestCase):
    def test_results_are_new(self):
        for read, source in (
            (tokens, SOURCE), (parse_source, SOURCE), (parse_query, QUERY), (parse_item, "table t (a int);"),
            (parse_item, f"step s = {QUERY};"),
        ):
            first = read(source)
            kept = copy.deepcopy(first)
            empty(first)
            self.assertEqual(read(source), kept)

    def test_printing_modifies_nothing(self):
        source = random.Random(6)
        for _ in range(100):
            expression, query = trees.expression(source, 4), trees.query(source, 2)
            items = [trees.item(source), trees.item(source)]
            for write, tree in ((print_expression, expression), (print_query, query), (print_source, items)):
                kept = copy.deepcopy(tree)
                text = write(tree)
                self.assertEqual(tree, kept)
                self.assertEqual(write(tree), text)

    def test_an_error_changes_nothing(self):
        for read in (tokens, parse_source, parse_query, parse_item):
            for _ in range(2):
                with self.assertRaises(SourceError) as caught:
                    read("from t where 'a")
                self.assertEqual(caught.exception.column, 14)


class Stage2(unittest.TestCase):
    def fields(self, pipeline):
        return copy.deepcopy((pipeline.tables, pipeline.steps, pipeline.plans))

    def test_compiling_an_expression(self):
        columns = [("t", "a", "int"), (None, "b", "text")]
        tree = parse_query("from t where coalesce(a, 1) < length(b)")[0][1][1][0][1]
        kept = copy.deepcopy((columns, tree))
        first = compile_expression(columns, tree)
        self.assertEqual((columns, tree), kept)
        self.assertEqual(compile_expression(columns, tree), first)

    def test_compiling_a_query(self):
        seen = [("t", ("table", 0), [("a", "int"), ("b", "text"), ("c", "truth")]), ("u", ("table", 1), [("a", "int")])]
        for text in (QUERY, "from t", "from t left join (from u union from u) as v on t.a = v.a select b"):
            query = parse_query(text)
            kept = copy.deepcopy((seen, query))
            first = compile_query(seen, query)
            expected = copy.deepcopy(first)
            empty(first)
            self.assertEqual((seen, query), kept)
            self.assertEqual(compile_query(seen, query), expected)

    def test_an_error_of_compiling_changes_nothing(self):
        seen = [("t", ("table", 0), [("a", "int")])]
        query = parse_query("from t where a = 1 select a, x")
        kept = copy.deepcopy((seen, query))
        for _ in range(2):
            with self.assertRaises(Problem):
                compile_query(seen, query)
            self.assertEqual((seen, query), kept)

    def test_a_pipeline_keeps_nothing_of_its_arguments(self):
        given = [("t", [("a", "int")])], [("s", [("a", "int")])], [[("table", 0), ("map", [("column", 0)], 0)]]
        expected = copy.deepcopy(given)
        pipeline = Pipeline(*given)
        self.assertEqual(given, expected)
        empty(given)
        self.assertEqual(self.fields(pipeline), expected)

    def test_pipelines_have_nothing_in_common(self):
        first = compile_source(SOURCE)
        kept = self.fields(first)
        for made in (
            define_step(first, 1, "from s join u on s.a = u.a select b, s.a"),
            append_step(first, "step q = from r;"), drop_step(first), compile_source(SOURCE),
        ):
            empty((made.tables, made.steps, made.plans))
            self.assertEqual(self.fields(first), kept)

    def test_lists_of_faults_are_new(self):
        check_source("step s = from t;").clear()
        self.assertEqual(len(check_source("step s = from t;")), 1)

    def test_values_and_totals(self):
        rows = [(3, "b"), (None, "a"), (1, "c")]
        kept = copy.deepcopy(rows)
        for form in (("count",), ("distinct", ("column", 1)), ("sum", ("column", 0)), ("least", ("column", 0)),
                     ("greatest", ("column", 1))):
            self.assertEqual(total(form, rows), total(form, rows))
            self.assertEqual(rows, kept)
        row_key(rows[0])
        evaluate(("add", ("column", 0), ("constant", 1)), rows[0])
        self.assertEqual(rows, kept)


class UnchangedCase(unittest.TestCase):
    def unchanged(self, read, *arguments):
        """Reads twice, with the lists of the first result emptied and the arguments looked at after each time."""
        kept = copy.deepcopy(arguments)
        first = read(*arguments)
        expected = copy.deepcopy(first)
        self.assertEqual(arguments, kept)
        empty(first)
        self.assertEqual(arguments, kept)
        self.assertEqual(read(*arguments), expected)


class Stage3(UnchangedCase):
    def test_rows(self):
        pipeline = compile_source("table t (a int, b text); step s = from t; step r = from s where a > 1 group b;")
        rows = [(3, "b"), (None, "a"), (1, "c"), (3, "b")]
        self.unchanged(query_rows, pipeline.plans[0], [rows], [])
        self.unchanged(query_rows, pipeline.plans[1], [rows], [rows])
        entries = [(number, 0, row) for number, row in enumerate(rows)]
        self.unchanged(step_rows, pipeline.plans, entries, [3, 0, 2, 2])

    def test_conditions(self):
        store = Diagrams()
        a, b, c = [store.there(entry) for entry in (9, 4, 6)]
        made = store.disjunction(store.conjunction(a, b), store.conjunction(store.negation(b), c))
        present, entries, conditions = [9, 9, 4], [4, 6, 9, 12], [made, a, made]
        for read, arguments in (
            (store.table, [made]), (store.depends, [made]), (store.first_set, [made]), (store.size, [conditions]),
            (store.ways, [made, entries]), (store.holds, [made, present]),
        ):
            self.unchanged(read, *arguments)

    def test_what_is_read_off_conditions(self):
        store = Diagrams()
        a, b, c = [store.there(entry) for entry in (9, 4, 6)]
        made = store.disjunction(store.conjunction(a, b), store.conjunction(store.negation(b), c))
        self.unchanged(lambda: cases(store, made))
        self.unchanged(lambda present: reasons(store, made, present), [9, 9, 4, 6])
        self.unchanged(lambda present, costs: cheapest(store, made, present, costs), [6, 4], {4: 3, 9: 4})

    def test_an_error_changes_no_condition(self):
        store = Diagrams()
        a, b, c = [store.there(entry) for entry in (9, 4, 6)]
        made = store.disjunction(store.disjunction(a, b), c)
        table = store.table(made)
        for _ in range(2):
            self.assertRaises(TooManyCases, lambda: cases(store, made, most_cases=2))
            self.assertRaises(TooManyReasons, lambda: reasons(store, made, [4, 6, 9], most=2))
            self.assertEqual((store.table(made), store.disjunction(store.disjunction(c, b), a)), (table, made))


class Stage4(UnchangedCase):
    PLANS = compile_source("""
        table t (a int, b text); table u (a int);
        step s = from t left join u on t.a = u.a select t.a, b;
        step r = from s semi join t on s.a = t.a group b with sum(a) as n, count as m;
        step q = from t select a except from u;
    """).plans
    ENTRIES = [(4, 0, (1, "x")), (2, 1, (1,)), (9, 0, (2, "x")), (3, 1, (2,)), (1, 0, (None, "y")), (7, 0, (1, "x"))]

    def test_candidates(self):
        store = Diagrams()
        tables = [entry_candidates(store, self.ENTRIES, table) for table in (0, 1)]
        steps = pipeline_candidates(store, self.PLANS, self.ENTRIES, 2)
        self.unchanged(lambda *arguments: entry_candidates(store, *arguments), self.ENTRIES, 0)
        self.unchanged(lambda *arguments: pipeline_candidates(store, *arguments), self.PLANS, self.ENTRIES, 2)
        for plan in self.PLANS + [[("table", 1)], [("step", 0)]]:
            self.unchanged(lambda *arguments: candidates(store, *arguments), plan, tables, steps)
        self.unchanged(condition_of, tables[0], (1, "x"))
        for word in ("distinct", "sum", "least", "greatest"):
            self.unchanged(lambda *arguments: total_values(Way(store, 500, 500), *arguments), (word, ("column", 0)),
                           tables[0])

    def test_an_error_changes_nothing(self):
        store = Diagrams()
        expected = pipeline_candidates(store, self.PLANS, self.ENTRIES, 2)
        kept = copy.deepcopy((self.PLANS, self.ENTRIES))
        for _ in range(2):
            self.assertRaises(TooManyRows, lambda: pipeline_candidates(store, self.PLANS, self.ENTRIES, 2, most_rows=1))
            self.assertRaises(TooManyQuestions,
                              lambda: pipeline_candidates(store, self.PLANS, self.ENTRIES, 2, most_nodes=1))
            self.assertEqual((self.PLANS, self.ENTRIES), kept)
            self.assertEqual(pipeline_candidates(store, self.PLANS, self.ENTRIES, 2), expected)

    def test_possible_rows(self):
        tables = [[(2, "b"), (1, "a"), (2, "b")], [(2,), (1,), (None,)]]
        steps = [[(4, "a"), (3, "b"), (4, "a")], None, []]
        for plan in self.PLANS + [[("table", 1)], [("step", 0)], [("step", 1)]]:
            self.unchanged(possible_rows, plan, tables, steps)


class Stage5(UnchangedCase):
    PLANS = compile_source("""
        table t (a int, b text); table u (a int);
        step s = from t group a with count as n; step r = from t anti join s on t.a < s.n;
        step q = from r join u on r.a = u.a select b union from t group b;
    """).plans

    def test_traces(self):
        tables = [[(2, "b"), (1, "a"), (2, "b")], [(2,), (1,), (2,)]]
        steps = [[(2, 1), (1, 1)], [(4, "a"), (1, "a"), (4, "a")]]
        for plan, row in zip(self.PLANS, ((2, 1), (1, "a"), ("a",))):
            self.unchanged(deciding_rows, plan, tables, steps, row)
            self.unchanged(uses, plan)
        entries = [(4, 0, (1, "x")), (2, 1, (1,)), (9, 0, (2, "x")), (3, 1, (2,)), (1, 0, (1, "x"))]
        for step, row in enumerate(((1, 1), (1, "x"), ("x",))):
            self.unchanged(origins, self.PLANS, entries, step, row)
        self.unchanged(falling, self.PLANS)

    def test_what_is_read_off_conditions(self):
        store = Diagrams()
        a, b, c = [store.there(entry) for entry in (9, 4, 6)]
        made = store.disjunction(store.conjunction(a, b), store.conjunction(store.negation(b), c))
        for present in ([9, 9, 4], [9], []):
            for read in (changes, blame):
                self.unchanged(lambda *arguments: read(store, made, *arguments), present, [9, 6, 4, 6, 11])
            self.unchanged(lambda *arguments: shares(store, made, *arguments), present)

    def test_an_error_changes_no_condition(self):
        store = Diagrams()
        a, b, c = [store.there(entry) for entry in (9, 4, 6)]
        made = store.disjunction(store.disjunction(a, b), c)
        table = store.table(made)
        for _ in range(2):
            self.assertRaises(TooManyChanges, lambda: changes(store, made, [], [4, 6, 9], most=2))
            self.assertEqual(store.table(made), table)


class Stage6(UnchangedCase):
    """What lines return and do with their arguments stands in test_line."""

    def test_chances_and_outcomes(self):
        store = Diagrams()
        a, b, c = [store.there(entry) for entry in (9, 4, 6)]
        made = store.disjunction(store.conjunction(a, b), store.conjunction(store.negation(b), c))
        cases_of, marks = {9: 3, 4: 500, 6: 250, 7: 0}, [((1, 1), a), ((1, 2), made), ((2, 1), b)]
        self.unchanged(lambda *arguments: chance(store, made, *arguments), cases_of)
        self.unchanged(lambda *arguments: chances_given(store, made, *arguments), cases_of, [4, 6, 7])
        for read in (outcomes, none_of):
            self.unchanged(lambda *arguments: read(store, *arguments), marks, (1,), [4, 9, 9], {4: 3, 9: 2, 6: 2})

    def test_an_error_changes_no_condition(self):
        store = Diagrams()
        marks = [((number,), store.there(number)) for number in range(4)]
        for _ in range(2):
            self.assertRaises(TooManyQuestions, lambda: none_of(store, marks, (), [], {}, most_nodes=3))
            self.assertEqual([store.table(condition) for _, condition in marks], [([(at, 0, 1)], 2) for at in range(4)])

    def test_versions(self):
        store = Diagrams()
        old = open_version(store, Stage4.PLANS, [2, 1])
        new = edit_version(store, old, ("add", 0, (1, "x")), [2, 1])
        kept = [copy.deepcopy(vars(version)) for version in (old, new)]
        for read, arguments in ((compare, [old, new]), (since, [[old, new], 0, (1, "x")]), (are_equal, [old, new]),
                                (separate, [store, old, new, 0, (1, "x")])):
            first = read(*arguments)
            expected = copy.deepcopy(first)
            empty(first)
            self.assertEqual(read(*arguments), expected)
        widths, edit = [2, 1], ("define", 1, [("table", 1), ("map", [("column", 0)], 0)])
        for _ in range(2):
            empty(vars(edit_version(store, new, edit, widths))["marks"])
            empty(vars(edit_version(store, new, edit, widths))["plans"])
        self.assertEqual([vars(version) for version in (old, new)], kept)
        self.assertEqual((widths, edit), ([2, 1], ("define", 1, [("table", 1), ("map", [("column", 0)], 0)])))


if __name__ == "__main__":
    unittest.main()

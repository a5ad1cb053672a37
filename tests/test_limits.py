"""Points 36 and 37: what is met while candidates are computed, and the limits that it is held against."""

import copy
import random
import unittest

import met
import models
import plans

from lineworks.carrying import candidates, entry_candidates, pipeline_candidates
from lineworks.diagrams import Diagrams
from lineworks.errors import TooManyQuestions, TooManyRows
from lineworks.limits import Way
from lineworks.pipelines import compile_source

A, B = ("column", 0), ("column", 1)
T, U = ("table", 0), ("table", 1)


def compute(read, *arguments, **limits):
    """Returns what a function returns, and the error that it raises or None."""
    try:
        return read(*arguments, **limits), None
    except (TooManyRows, TooManyQuestions) as error:
        return None, type(error)


class Limits(unittest.TestCase):
    def setUp(self):
        self.store = Diagrams()
        self.a, self.b, self.c, self.d = [self.store.there(number) for number in range(4)]

    def check(self, plan, given, most_rows, most_nodes, expected):
        """Checks which error is raised under limits; none if expected is None."""
        found, error = compute(candidates, self.store, plan, given, [], most_rows=most_rows, most_nodes=most_nodes)
        self.assertEqual(error, expected)
        if expected is None:
            self.assertEqual(found, candidates(self.store, plan, given, []))

    def both(self, first, second):
        return self.store.conjunction(first, second)

    def either(self, first, second):
        return self.store.disjunction(first, second)

    def test_nothing_is_met_for_tables_steps_and_filters(self):
        large = [((number,), self.both(self.a, self.b)) for number in range(600)]
        keep = ("filter", ("less", A, ("constant", 550)), 0)
        for leaf, given in ((T, ([large], [])), (("step", 0), ([], [large]))):
            for plan, number in (([leaf], 600), ([leaf, keep], 550)):
                found = candidates(self.store, plan, *given, most_rows=0, most_nodes=0)
                self.assertEqual(len(found), number)
                self.assertEqual(len(candidates(self.store, plan, *given)), number)

    def test_the_length_of_a_collected_list(self):
        given = [[((number,), self.a) for number in (1, 2, 3)], [((number,), self.b) for number in (3, 4)]]
        for operation, length in (
            (("map", [A], 0), 3), (("map", [("constant", 1)], 0), 1), (("union", 0, 1), 4), (("union", 0, 0), 3),
            (("join", ("constant", 1), 0, 1), 6), (("join", ("equal", A, B), 0, 1), 1), (("group", [A], [], 0), 3),
            (("group", [], [("greatest", A)], 0), 2), (("join", ("constant", 0), 0, 1), 0),
        ):
            self.check([T, U, operation], given, length, 500, None)
            if length:
                self.check([T, U, operation], given, length - 1, 500, TooManyRows)

    def test_no_list_is_met_for_minus_and_anti(self):
        given = [[((number,), self.a) for number in (1, 2, 3)], [((3,), self.b)]]
        for operation in (("minus", 0, 1), ("anti", ("equal", A, B), 0, 1)):
            self.check([T, U, operation], given, 0, 500, None)

    def test_the_sizes_of_conditions(self):
        three = self.both(self.a, self.both(self.b, self.c))
        for operation, given, size in (
            (("map", [A], 0), [[((1,), three)], []], 3),
            (("map", [("constant", 1)], 0), [[((1,), self.a), ((2,), self.b)], []], 2),
            (("union", 0, 1), [[((1,), self.a)], [((1,), self.both(self.b, self.c))]], 3),
            (("join", ("constant", 1), 0, 1), [[((1,), self.a)], [((1,), self.both(self.b, self.c))]], 3),
            (("minus", 0, 1), [[((1,), self.a)], [((1,), self.both(self.b, self.c))]], 3),
            (("minus", 0, 1), [[((1,), three)], []], 3),
            (("anti", ("constant", 1), 0, 1), [[((1,), three)], []], 3),
            (("anti", ("constant", 1), 0, 1), [[((1,), self.a)], [((1,), self.b), ((2,), self.c)]], 3),
            (("group", [("constant", 1)], [], 0), [[((1,), self.a), ((2,), self.both(self.b, self.c))], []], 3),
            (("group", [], [("count",)], 0), [[((1,), self.a), ((2,), self.b)], []], 3),
            (("join", ("constant", 1), 0, 1), [[((1,), self.a)], [((1,), 1)]], 1),
            (("map", [A], 0), [[((1,), 1)], []], 0),
        ):
            self.check([T, U, operation], given, 500, size, None)
            if size:
                self.check([T, U, operation], given, 500, size - 1, TooManyQuestions)

    def test_what_is_met_on_the_way_may_be_greater_than_what_is_found(self):
        odd = self.store.differs(self.a, self.store.differs(self.b, self.c))
        # The joined condition of the two last rows is the greatest one.
        given = [[((1,), self.either(self.a, self.both(self.b, self.c))), ((2,), odd), ((3,), self.store.negation(odd))]]
        plan = [T, ("map", [("constant", 0)], 0)]
        self.assertEqual(candidates(self.store, plan, given, []), [((0,), 1)])
        self.check(plan, given, 1, 5, None)
        self.check(plan, given, 1, 4, TooManyQuestions)

    def test_the_first_one_beyond_its_limit_decides(self):
        large = self.both(self.a, self.b)
        # Collecting goes from the last row to the first, and meets the condition before the list.
        for given, most_rows, most_nodes, expected in (
            ([[((1,), large), ((2,), self.a), ((3,), self.b)]], 1, 1, TooManyRows),
            ([[((1,), self.a), ((2,), self.a), ((3,), large)]], 1, 1, TooManyQuestions),
            ([[((1,), self.a), ((2,), large), ((3,), self.b)]], 1, 1, TooManyQuestions),
            ([[((1,), large)]], 0, 1, TooManyQuestions), ([[((1,), self.a)]], 0, 1, TooManyRows),
            ([[((1,), 1)]], 0, 0, TooManyRows), ([[((1,), self.a)]], 0, 0, TooManyQuestions),
        ):
            self.check([T, ("map", [A], 0)], given, most_rows, most_nodes, expected)

    def test_operations_are_computed_one_after_another(self):
        given = [[((1,), self.a), ((2,), self.b)], [((1,), self.both(self.c, self.d))]]
        rows, nodes = ("map", [A], 0), ("minus", 1, 0)
        self.check([T, U, rows, nodes], given, 1, 1, TooManyRows)
        self.check([T, U, nodes, rows], given, 1, 1, TooManyQuestions)
        # Also those that no later one names.
        self.check([T, U, rows, ("filter", ("constant", 0), 0)], given, 1, 1, TooManyRows)
        self.check([T, U, nodes, ("filter", ("constant", 0), 0)], given, 1, 1, TooManyQuestions)

    def test_rows_that_never_come_out_make_no_list_longer(self):
        no_a = self.store.negation(self.a)
        given = [[((1,), self.a), ((2,), no_a)], [((3,), self.a)]]
        plan = [T, U, ("join", ("constant", 1), 0, 1)]
        self.assertEqual(candidates(self.store, plan, given, [], most_rows=1), [((1, 3), self.a)])
        self.check(plan, given, 0, 500, TooManyRows)
        self.check([T, U, ("join", ("equal", A, ("constant", 2)), 0, 1)], given, 0, 0, None)

    def test_the_limits_that_are_not_given(self):
        many = [((number,), 1) for number in range(501)]
        plan = [T, ("map", [A], 0)]
        self.assertEqual(len(candidates(self.store, plan, [many[1:]], [])), 500)
        self.assertRaises(TooManyRows, candidates, self.store, plan, [many], [])
        chain = 1
        for number in reversed(range(500)):
            chain = self.store.conjunction(self.store.there(number), chain)
        longer = self.store.conjunction(self.store.there(500), chain)
        self.assertEqual(candidates(self.store, plan, [[((1,), chain)]], []), [((1,), chain)])
        self.assertRaises(TooManyQuestions, candidates, self.store, plan, [[((1,), longer)]], [])
        entries = [(number, 0, (number,)) for number in range(501)]
        self.assertEqual(len(pipeline_candidates(self.store, [plan], entries[1:], 1)[0]), 500)
        self.assertRaises(TooManyRows, pipeline_candidates, self.store, [plan], entries, 1)
        alike = [(number, 0, (1,)) for number in range(501)]
        self.assertEqual(len(pipeline_candidates(self.store, [plan], alike[1:], 1)[0]), 1)
        self.assertRaises(TooManyQuestions, pipeline_candidates, self.store, [plan], alike, 1)

    def test_the_limits_of_a_pipeline_hold_for_each_step(self):
        made = compile_source("""
            table t (a int); table u (a int);
            step p = from t; step s = from t union from u; step r = from t except from u;
        """).plans
        entries = [(0, 0, (1,)), (1, 1, (1,)), (2, 1, (2,))]
        for most_rows, most_nodes, expected in ((2, 2, None), (1, 2, TooManyRows), (1, 1, TooManyRows),
                                                (0, 2, TooManyRows), (2, 1, TooManyQuestions)):
            found, error = compute(pipeline_candidates, self.store, made, entries, 2, most_rows=most_rows,
                                   most_nodes=most_nodes)
            self.assertEqual(error, expected)
            if expected is None:
                self.assertEqual(found, pipeline_candidates(self.store, made, entries, 2))
        # The first step that is beyond a limit decides.
        self.assertEqual(compute(pipeline_candidates, self.store, [made[2], made[1]], entries, 2, most_rows=1,
                                 most_nodes=1)[1], TooManyQuestions)
        self.assertEqual(compute(pipeline_candidates, self.store, [[U, ("map", [A], 0)], made[2]], entries, 2,
                                 most_rows=1, most_nodes=1)[1], TooManyRows)

    def test_an_error_changes_nothing(self):
        given = [[((1,), self.a), ((2,), self.both(self.a, self.b))]]
        kept = copy.deepcopy(given)
        plan = [T, ("map", [("constant", 1)], 0)]
        for _ in range(2):
            self.check(plan, given, 0, 500, TooManyRows)
            self.check(plan, given, 500, 1, TooManyQuestions)
            self.assertEqual(given, kept)
        self.check(plan, given, 1, 2, None)


class WhatIsMet(unittest.TestCase):
    """The errors that are raised, against a straight reading that writes down what is met."""

    def limits(self, noted):
        """Returns pairs of limits: few, just kept, just passed, and great ones."""
        rows, nodes = met.greatest(noted, "list"), met.greatest(noted, "condition")
        found = {(few, other) for few in (0, 1, 2, 3, 500) for other in (0, 1, 2, 3, 500)}
        found |= {(rows, nodes), (rows - 1, nodes), (rows, nodes - 1), (rows - 1, nodes - 1), (rows, 500), (500, nodes),
                  (rows - 1, 500), (500, nodes - 1), (rows - 2, nodes - 1), (rows - 1, nodes - 2)}
        return sorted((one, other) for one, other in found if one >= 0 and other >= 0)

    def held(self, noted, expected, read, *arguments):
        """Holds what is met against the errors under all pairs of limits. Returns the outcomes that there were."""
        outcomes = set()
        for most_rows, most_nodes in self.limits(noted):
            error = met.outcome(noted, most_rows, most_nodes)
            outcomes.add(error)
            found = compute(read, *arguments, most_rows=most_rows, most_nodes=most_nodes)
            self.assertEqual(found, (None if error else expected, error), (most_rows, most_nodes))
        return outcomes

    def entries(self, source, number):
        found = []
        for entry in sorted(source.sample(range(30), number)):
            table = source.randrange(2)
            found.append((entry, table, plans.row(source, table + 1)))
        source.shuffle(found)
        return found

    def given(self, source, numbers, width, most):
        """Returns candidates under models of all kinds, as if they were those of a step."""
        rows = {plans.row(source, width) for _ in range(source.randint(0, most))}
        found = []
        for row in plans.ordered(rows):
            model = models.drawn_by_formula(source, numbers, source.choice([0, 1, 2, 3]))
            if model:
                found.append((row, model))
        return found

    def test_each_operation(self):
        source = random.Random(36)
        numbers = (0, 1, 2, 3, 4)
        outcomes = {word: set() for word in plans.WORDS}
        for at in range(560):
            word = plans.WORDS[at % len(plans.WORDS)]
            plan = plans.plan_with(source, [1, 2], [1], word)
            store, reading = Diagrams(), met.Reading(numbers)
            tables = [self.given(source, numbers, width, 7) for width in (1, 2)]
            steps = [self.given(source, numbers, 1, 3)]
            expected = self.kept(store, reading.candidates(plan, tables, steps), numbers)
            outcomes[word] |= self.held(reading.met, expected, candidates, store, plan,
                                        [self.kept(store, each, numbers) for each in tables],
                                        [self.kept(store, each, numbers) for each in steps])
        for word in plans.WORDS:
            self.assertEqual(outcomes[word], {None, TooManyRows, TooManyQuestions}, word)

    def test_tables_of_input_rows(self):
        source = random.Random(35)
        for _ in range(60):
            plan = plans.plan_with(source, [1, 2], [1], source.choice(plans.WORDS))
            entries = self.entries(source, source.choice([0, 3, 5, 6]))
            numbers = tuple(sorted(number for number, _, _ in entries))
            store, reading = Diagrams(), met.Reading(numbers)
            read_tables = [met.table_models(entries, table, numbers) for table in (0, 1)]
            expected = reading.candidates(plan, read_tables, [read_tables[0][1:]])
            tables = [entry_candidates(store, entries, table) for table in (0, 1)]
            self.assertEqual(tables, [self.kept(store, each, numbers) for each in read_tables])
            self.held(reading.met, self.kept(store, expected, numbers), candidates, store, plan, tables,
                      [tables[0][1:]])

    def kept(self, store, found, numbers):
        return [(row, models.condition(store, model, numbers)) for row, model in found]

    def test_pipelines(self):
        source = random.Random(37)
        for _ in range(120):
            made, widths = [], []
            for _ in range(source.randint(1, 3)):
                plan, width = plans.plan(source, [1, 2], widths, 4)
                made.append(plan)
                widths.append(width)
            entries = self.entries(source, source.choice([0, 3, 5, 6]))
            numbers = tuple(sorted(number for number, _, _ in entries))
            store, reading = Diagrams(), met.Reading(numbers)
            tables = [met.table_models(entries, table, numbers) for table in (0, 1)]
            steps = []
            for plan in made:
                steps.append(reading.candidates(plan, tables, steps))
            expected = [self.kept(store, each, numbers) for each in steps]
            self.held(reading.met, expected, pipeline_candidates, store, made, entries, 2)

    def test_a_group_over_several_rows(self):
        source = random.Random(38)
        numbers = (0, 1, 2, 3)
        for _ in range(150):
            keys = source.choice([[], [A], [A, B], [("missing", A)]])
            forms = [plans.form(source, 2) for _ in range(source.randint(0 if keys else 1, 3))]
            plan = [U, ("group", keys, forms, 0)]
            store, reading = Diagrams(), met.Reading(numbers)
            tables = [[], self.given(source, numbers, 2, 7)]
            expected = self.kept(store, reading.candidates(plan, tables, []), numbers)
            self.held(reading.met, expected, candidates, store, plan,
                      [self.kept(store, each, numbers) for each in tables], [])

    def test_conditions_are_joined_from_the_last_one_on(self):
        store = Diagrams()
        odd = store.differs(store.there(1), store.there(2))
        given = [((1,), store.there(0)), ((2,), odd), ((3,), store.negation(odd))]
        one = [((0,), 1)]
        for plan, tables in (([T, ("group", [("missing", A)], [], 0)], [given]),
                             ([T, U, ("anti", ("constant", 1), 0, 1)], [one, given]),
                             ([T, ("group", [], [("distinct", ("missing", A))], 0)], [given])):
            # The other way round the first one or the second one would be greater than all of these.
            self.assertEqual(compute(candidates, store, plan, tables, [], most_nodes=3)[1], None)
            self.assertEqual(compute(candidates, store, plan, tables, [], most_nodes=2)[1], TooManyQuestions)


    def test_the_list_of_pairs_is_met(self):
        store = Diagrams()
        odd = 0
        for number in (6, 5, 4, 3):
            odd = store.differs(store.there(number), odd)
        first = [((0, number, 9 - number), store.there(number)) for number in range(3)]
        plan = [T, ("group", [A], [("least", B), ("least", ("column", 2))], 0)]
        # Each total has four values, but there are six pairs in the first group.
        self.assertEqual(len(candidates(store, plan, [first], [], most_rows=6, most_nodes=5)), 6)
        tables = [first + [((1, 1, 1), odd)]]
        for most_rows, expected in ((6, TooManyQuestions), (5, TooManyRows), (4, TooManyRows)):
            error = compute(candidates, store, plan, tables, [], most_rows=most_rows, most_nodes=5)[1]
            self.assertEqual(error, expected)


class Ways(unittest.TestCase):
    def test_it_is_created_as_the_interface_says(self):
        store = Diagrams()
        way = Way(store, 1, 2)
        self.assertEqual(way.meet(store.there(4)), store.there(4))


if __name__ == "__main__":
    unittest.main()

"""Point 39: the values that a total can have."""

import copy
import random
import unittest

import met
import models
import plans

from lineworks.diagrams import Diagrams
from lineworks.errors import TooManyQuestions, TooManyRows
from lineworks.limits import Way
from lineworks.states import total_values
from lineworks.totals import total

A = ("column", 0)
BOUND = 10 ** 15


def values_of(store, word, rows):
    form = (word,) if word == "count" else (word, A)
    return total_values(Way(store, 500, 500), form, rows)


class Values(unittest.TestCase):
    def setUp(self):
        self.store = Diagrams()
        self.a, self.b, self.c = [self.store.there(number) for number in range(3)]

    def all_of(self, *conditions):
        made = 1
        for condition in conditions:
            made = self.store.conjunction(made, condition)
        return made

    def no(self, condition):
        return self.store.negation(condition)

    def some(self, *values):
        """Returns candidates with these values, each of which comes out with an input row of its own."""
        return [((value,), self.store.there(at)) for at, value in enumerate(values)]

    def test_no_candidates(self):
        for word, value in (("count", 0), ("distinct", 0), ("sum", None), ("least", None), ("greatest", None)):
            self.assertEqual(values_of(self.store, word, []), [(value, 1)])

    def test_one_candidate(self):
        for word, value, with_it in (("count", 0, 1), ("distinct", 0, 1), ("sum", None, 5), ("least", None, 5),
                                     ("greatest", None, 5)):
            self.assertEqual(values_of(self.store, word, self.some(5)), [(with_it, self.a), (value, self.no(self.a))])
            self.assertEqual(values_of(self.store, word, [((5,), 1)]), [(with_it, 1)])

    def test_the_order_of_the_values(self):
        only_a, only_b = self.all_of(self.a, self.no(self.b)), self.all_of(self.b, self.no(self.a))
        both, none = self.all_of(self.a, self.b), self.all_of(self.no(self.a), self.no(self.b))
        either = self.store.differs(self.a, self.b)
        # Behind the candidate in front the states are those of 5 alone, of both, of none and of 3 alone.
        self.assertEqual(values_of(self.store, "sum", self.some(3, 5)), [(3, only_a), (None, none), (8, both),
                                                                         (5, only_b)])
        self.assertEqual(values_of(self.store, "count", self.some(3, 5)), [(0, none), (2, both), (1, either)])
        self.assertEqual(values_of(self.store, "least", self.some(3, 5)), [(None, none), (3, self.a), (5, only_b)])
        self.assertEqual(values_of(self.store, "greatest", self.some(3, 5)), [(3, only_a), (None, none), (5, self.b)])
        self.assertEqual(values_of(self.store, "greatest", self.some("b", "a")),
                         [(None, none), ("b", self.a), ("a", only_b)])

    def test_equal_values(self):
        none = self.all_of(self.no(self.a), self.no(self.b))
        either = self.store.disjunction(self.a, self.b)
        for word in ("distinct", "least", "greatest"):
            found = values_of(self.store, word, self.some(7, 7))
            self.assertEqual(sorted(condition for _, condition in found), sorted([none, either]))
        self.assertEqual(values_of(self.store, "sum", self.some(2, -2))[0],
                         (2, self.all_of(self.a, self.no(self.b))))

    def test_none_among_the_values(self):
        rows = self.some(None, 4, None)
        for word in ("sum", "least", "greatest"):
            self.assertEqual(values_of(self.store, word, rows), [(None, self.no(self.b)), (4, self.b)])
        self.assertEqual(values_of(self.store, "distinct", rows), [(1, self.b), (0, self.no(self.b))])
        self.assertEqual(len(values_of(self.store, "count", rows)), 4)
        for word, value in (("sum", None), ("least", None), ("distinct", 0)):
            self.assertEqual(values_of(self.store, word, self.some(None, None)), [(value, 1)])

    def test_strings_among_the_values_of_a_sum(self):
        self.assertEqual(values_of(self.store, "sum", self.some("a", 4)), [(None, self.no(self.b)), (4, self.b)])
        self.assertEqual(values_of(self.store, "least", [((0,), self.a), (("",), 1)]), [(0, self.a), ("", self.no(self.a))])

    def test_a_sum_beyond_the_bound(self):
        for sign in (1, -1):
            both = self.all_of(self.a, self.b)
            found = values_of(self.store, "sum", self.some(sign * BOUND, sign))
            none = self.store.disjunction(both, self.all_of(self.no(self.a), self.no(self.b)))
            self.assertEqual(dict(found), {None: none, sign * BOUND: self.all_of(self.a, self.no(self.b)),
                                           sign: self.all_of(self.b, self.no(self.a))})

    def test_a_part_of_a_sum_beyond_the_bound(self):
        for values in ((BOUND, BOUND, -BOUND), (-BOUND, -7, 7), (BOUND, 1, -1)):
            found = dict(values_of(self.store, "sum", self.some(*values)))
            everything = [value for value, condition in found.items() if self.store.holds(condition, [0, 1, 2])]
            self.assertEqual(everything, [sum(values)])

    def test_members_that_cannot_come_out_together(self):
        rows = [((1,), self.a), ((2,), self.no(self.a))]
        self.assertEqual(values_of(self.store, "count", rows), [(1, 1)])
        self.assertEqual(values_of(self.store, "sum", rows), [(1, self.a), (2, self.no(self.a))])

    def test_by_all_choices(self):
        source = random.Random(39)
        numbers = (0, 1, 2, 3, 4)
        for at in range(400):
            store = Diagrams()
            rows, members = self.drawn(source, store, numbers)
            form = plans.form(source, 2) if at % 5 else ("sum", A)
            kept = copy.deepcopy((form, rows))
            found = total_values(Way(store, 500, 500), form, rows)
            self.assertEqual((form, rows), kept)
            self.assertEqual(len({value for value, _ in found}), len(found))
            for choice in models.subsets(numbers):
                expected = total(form, [row for row, model in members if choice in model])
                self.assertEqual([value for value, condition in found if store.holds(condition, sorted(choice))],
                                 [expected])

    def drawn(self, source, store, numbers):
        """Returns candidates with conditions, and with models, at random."""
        values = [None, 1, 2, 3, -2, "", "a", BOUND, -BOUND, BOUND - 1]
        rows = {(source.choice(values), source.choice(values)) for _ in range(source.randint(0, 5))}
        members = []
        for row in plans.ordered(rows):
            if source.random() < 0.5:
                model = models.there(source.choice(numbers), numbers)
            else:
                model = models.drawn_by_formula(source, numbers, 2)
            if model:
                members.append((row, model))
        return [(row, models.condition(store, model, numbers)) for row, model in members], members


class WhatIsMet(unittest.TestCase):
    def test_against_a_straight_reading(self):
        source = random.Random(40)
        numbers = (0, 1, 2, 3, 4)
        outcomes = set()
        for at in range(150):
            store, reading = Diagrams(), met.Reading(numbers)
            rows, members = Values.drawn(self, source, store, numbers)
            form = plans.form(source, 2) if at % 3 else ("sum", A)
            expected = [(value, models.condition(store, model, numbers)) for value, model in reading.values(form, members)]
            rows_met, nodes_met = met.greatest(reading.met, "list"), met.greatest(reading.met, "condition")
            for most_rows in {0, 1, 2, 3, max(0, rows_met - 1), rows_met, 500}:
                for most_nodes in {0, 1, 2, 3, max(0, nodes_met - 1), nodes_met, 500}:
                    error = met.outcome(reading.met, most_rows, most_nodes)
                    outcomes.add(error)
                    if error:
                        with self.assertRaises(error):
                            total_values(Way(store, most_rows, most_nodes), form, rows)
                    else:
                        self.assertEqual(total_values(Way(store, most_rows, most_nodes), form, rows), expected)
        self.assertEqual(outcomes, {None, TooManyRows, TooManyQuestions})

    def test_the_values_of_distinct_are_joined_before_anything_else(self):
        store = Diagrams()
        a, b, c = [store.there(number) for number in range(3)]
        # The joined condition of the second value has a size of 2; before it no list is met.
        rows = [((1,), a), ((2,), b), ((2, 0), c)]
        with self.assertRaises(TooManyQuestions):
            total_values(Way(store, 0, 1), ("distinct", A), rows)
        with self.assertRaises(TooManyRows):
            total_values(Way(store, 0, 2), ("distinct", A), rows)

    def test_limits_of_one_candidate(self):
        store = Diagrams()
        rows = [((1,), store.there(0))]
        self.assertEqual(len(total_values(Way(store, 2, 1), ("count",), rows)), 2)
        self.assertRaises(TooManyRows, total_values, Way(store, 1, 1), ("count",), rows)
        self.assertRaises(TooManyQuestions, total_values, Way(store, 2, 0), ("count",), rows)
        self.assertEqual(total_values(Way(store, 1, 0), ("count",), []), [(0, 1)])
        self.assertRaises(TooManyRows, total_values, Way(store, 0, 0), ("count",), [])


if __name__ == "__main__":
    unittest.main()

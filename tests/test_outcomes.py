"""Point 49: rows that begin alike."""

import copy
import random
import unittest

import models
from test_cheapest import read

from lineworks.diagrams import Diagrams
from lineworks.errors import TooManyQuestions
from lineworks.outcomes import none_of, outcomes

FIVE = (1, 2, 5, 6, 9)
ROWS = [(None, "x"), (1, None), (1, 2), (1, "a"), (2, 2), (2, 3), ("a", 1)]
PREFIXES = [(), (None,), (1,), (2,), ("a",), (3,), (1, 2), (1, None), (2, 4), (1, 2, 3)]


def begins(row, prefix):
    return len(prefix) <= len(row) and all(row[at] == value for at, value in enumerate(prefix))


def drawn(seed, number):
    """Yields a store, candidates with their models, a choice, and costs."""
    source = random.Random(seed)
    for _ in range(number):
        store = Diagrams()
        found = []
        for row in ROWS:
            model = models.drawn_by_formula(source, FIVE, 2)
            if model and source.random() < 0.8:
                found.append((row, models.condition(store, model, FIVE), model))
        choice = frozenset(entry for entry in FIVE if source.random() < 0.5)
        most = source.choice([0, 1, 2, 9])
        costs = {entry: source.randint(0, most) for entry in FIVE if source.random() < 0.7}
        yield store, found, choice, costs


class Outcomes(unittest.TestCase):
    def test_against_all_changes(self):
        reached = {True: 0, False: 0}
        for store, found, choice, costs in drawn(49, 60):
            marks = [(row, condition) for row, condition, _ in found]
            kept = copy.deepcopy((marks, costs))
            for prefix in PREFIXES:
                expected = []
                for row, _, model in found:
                    if begins(row, prefix):
                        change = read(model, choice, costs, FIVE)
                        reached[change is None] += 1
                        expected += [] if change is None else [(row,) + change]
                self.assertEqual(outcomes(store, marks, prefix, sorted(choice), costs), expected)
            self.assertEqual((marks, costs), kept)
        self.assertGreater(min(reached.values()), 50)

    def setUp(self):
        self.store = store = Diagrams()
        self.a, self.b, self.c = [store.there(entry) for entry in (1, 2, 3)]
        both = store.conjunction(self.a, self.b)
        self.marks = [((1, 1), both), ((1, 2), self.c), ((2, 1), store.negation(self.a)), ((2, 2), 1)]

    def test_prefixes(self):
        costs = {1: 4, 2: 1, 3: 1}
        first, second = ((1, 1), 1, [2]), ((1, 2), 1, [3])
        third, fourth = ((2, 1), 4, [1]), ((2, 2), 0, [])
        for prefix, expected in (((), [first, second, third, fourth]), ((1,), [first, second]), ((2, 1), [third]),
                                 ((2,), [third, fourth]), ((3,), []), ((1, 3), []), ((1, 2, 3), [])):
            self.assertEqual(outcomes(self.store, self.marks, prefix, [1], costs), expected)

    def test_candidates_that_cannot_be_reached(self):
        self.assertEqual(outcomes(self.store, self.marks, (1,), [1], {1: 0}), [])
        self.assertEqual(outcomes(self.store, self.marks, (1,), [1], {2: 7}), [((1, 1), 7, [2])])
        self.assertEqual(outcomes(self.store, self.marks, (2,), [1], {}), [((2, 2), 0, [])])

    def test_ties(self):
        store = Diagrams()
        a, b, c = [store.there(entry) for entry in (1, 2, 3)]
        made = [((1,), store.disjunction(c, store.conjunction(a, b))), ((2,), store.disjunction(b, c))]
        self.assertEqual(outcomes(store, made, (), [], {1: 1, 2: 1, 3: 2}), [((1,), 2, [3]), ((2,), 1, [2])])
        self.assertEqual(outcomes(store, made, (), [], {1: 1, 2: 2, 3: 2}), [((1,), 2, [3]), ((2,), 2, [2])])

    def test_results_are_new(self):
        found = outcomes(self.store, self.marks, (1,), [1], {2: 1, 3: 1})
        found[0][2].append(9)
        found.clear()
        self.assertEqual(outcomes(self.store, self.marks, (1,), [1], {2: 1, 3: 1}),
                         [((1, 1), 1, [2]), ((1, 2), 1, [3])])


class NoneOf(unittest.TestCase):
    def test_against_all_changes(self):
        kinds = set()
        for store, found, choice, costs in drawn(50, 60):
            marks = [(row, condition) for row, condition, _ in found]
            kept = copy.deepcopy((marks, costs))
            for prefix in PREFIXES:
                none = frozenset(other for other in models.subsets(FIVE)
                                 if not any(other in model for row, _, model in found if begins(row, prefix)))
                expected = read(none, choice, costs, FIVE)
                kinds.add((expected is None, choice in none))
                self.assertEqual(none_of(store, marks, prefix, sorted(choice), costs), expected)
            self.assertEqual((marks, costs), kept)
        self.assertEqual(kinds, {(True, False), (False, False), (False, True)})

    def test_some(self):
        store = Diagrams()
        a, b, c = [store.there(entry) for entry in (1, 2, 3)]
        made = [((1, 1), store.conjunction(a, b)), ((1, 2), c), ((2, 1), store.negation(a)), ((3, 1), 1)]
        costs = {1: 4, 2: 1, 3: 1}
        for prefix, present, expected in (
            ((1,), [1, 2, 3], (2, [2, 3])), ((1, 1), [1, 2, 3], (1, [2])), ((1,), [1, 2], (1, [2])),
            # None comes out already.
            ((1,), [1], (0, [])), ((4,), [1, 2, 3], (0, [])), ((1, 1, 1), [1, 2, 3], (0, [])),
            # No change helps.
            ((3,), [], None), ((), [1], None),
        ):
            self.assertEqual(none_of(store, made, prefix, present, costs), expected)
        self.assertIsNone(none_of(store, made, (1,), [3], {1: 0, 2: 0}))
        self.assertIsNone(none_of(store, made, (2,), [], {2: 0, 3: 0}))
        # Those with the same cost: fewer input rows, and then the first ones.
        self.assertEqual(none_of(store, made, (1, 1), [1, 2], {1: 1, 2: 1}), (1, [1]))

    def test_conditions_are_joined_from_the_last_one(self):
        store = Diagrams()
        parts = [store.there(entry) for entry in range(6)]
        pair = store.conjunction(parts[4], parts[5])
        last = store.disjunction(pair, store.conjunction(store.negation(parts[4]), store.negation(parts[5])))
        # The last ones together are large. With the first one all of it is always.
        made = [((1, 0), 1), ((1, 1), parts[3]), ((1, 2), last), ((2, 0), store.differs(pair, parts[0]))]
        size = store.size([store.disjunction(parts[3], last)])
        self.assertEqual(size, 4)
        costs = {entry: 1 for entry in range(6)}
        self.assertIsNone(none_of(store, made, (1,), [], costs, most_nodes=size))
        self.assertRaises(TooManyQuestions, none_of, store, made, (1,), [], costs, most_nodes=size - 1)
        # The first one alone is met at the end, and those with another prefix are not met.
        self.assertIsNone(none_of(store, made, (1, 0), [], costs, most_nodes=0))
        self.assertEqual(none_of(store, made, (1, 1), [3], costs, most_nodes=1), (1, [3]))
        self.assertRaises(TooManyQuestions, none_of, store, made, (1, 1), [3], costs, most_nodes=0)
        self.assertEqual(none_of(store, made, (7,), [3], costs, most_nodes=0), (0, []))
        self.assertRaises(TooManyQuestions, none_of, store, made, (2,), [], costs, most_nodes=store.size([made[3][1]]) - 1)
        # The condition of the last candidate is met, too: joined with never it is itself.
        self.assertRaises(TooManyQuestions, none_of, store, [((1,), 1), ((1, 2), last)], (), [], costs, most_nodes=2)

    def test_the_limit_that_is_not_given(self):
        for number in (500, 501):
            store = Diagrams()
            made = []
            for entry in range(number):
                made.append(((1, entry), store.there(entry)))
            costs = {entry: 1 for entry in range(number)}
            if number == 500:
                self.assertEqual(none_of(store, made, (1,), [3, 4], costs), (2, [3, 4]))
            else:
                self.assertRaises(TooManyQuestions, none_of, store, made, (1,), [3, 4], costs)
                self.assertEqual(none_of(store, made, (1,), [3, 4], costs, most_nodes=501), (2, [3, 4]))

    def test_no_list_is_met(self):
        store = Diagrams()
        made = [((1, at), store.there(3)) for at in range(600)]
        self.assertEqual(none_of(store, made, (1,), [3], {3: 2}, most_nodes=1), (2, [3]))


if __name__ == "__main__":
    unittest.main()

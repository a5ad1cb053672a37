"""Point 33: the cheapest change."""

import random
import unittest

import models

from lineworks.cheapest import cheapest
from lineworks.diagrams import Diagrams

FIVE = (1, 2, 5, 6, 9)


def read(model, choice, costs, entries):
    """Returns the cheapest change out of all changes."""
    able = [entry for entry in entries if entry in costs]
    found = [turned for turned in models.subsets(able) if choice ^ turned in model]
    if not found:
        return None
    least = min(sum(costs[entry] for entry in turned) for turned in found)
    best = [turned for turned in found if sum(costs[entry] for entry in turned) == least]
    return least, models.in_set_order(best)[0]


class Cheapest(unittest.TestCase):
    def test_against_all_changes(self):
        source = random.Random(33)
        seen = set()
        for at in range(400):
            entries = FIVE[:source.randint(1, 5)]
            model = models.drawn(source, entries, source.choice([0.1, 0.3, 0.6]))
            if at % 2:
                model = models.drawn_by_formula(source, entries, 3)
            store, made = models.kept(model, entries)
            for _ in range(6):
                choice = frozenset(entry for entry in entries if source.random() < 0.5)
                most = source.choice([0, 1, 2, 9])
                costs = {entry: source.randint(0, most) for entry in FIVE if source.random() < 0.8}
                expected = read(model, choice, costs, entries)
                seen.add((expected is None, choice in model, expected is not None and expected[0] == 0))
                kept = dict(costs)
                self.assertEqual(cheapest(store, made, sorted(choice), costs), expected)
                self.assertEqual(costs, kept)
        self.assertEqual(len(seen), 4)

    def test_equal_costs(self):
        store = Diagrams()
        a, b, c = [store.there(entry) for entry in (1, 2, 3)]
        one = store.disjunction(a, store.conjunction(b, c))
        # The fewest members, then the first set.
        self.assertEqual(cheapest(store, one, [], {1: 2, 2: 1, 3: 1}), (2, [1]))
        self.assertEqual(cheapest(store, one, [], {1: 3, 2: 1, 3: 1}), (2, [2, 3]))
        some = store.disjunction(store.disjunction(c, b), a)
        self.assertEqual(cheapest(store, some, [], {3: 1, 2: 1, 1: 1}), (1, [1]))
        self.assertEqual(cheapest(store, some, [], {3: 1, 2: 1, 1: 2}), (1, [2]))
        odd = store.differs(store.differs(a, b), c)
        self.assertEqual(cheapest(store, odd, [1, 2], {1: 4, 2: 4, 3: 4}), (4, [1]))

    def test_sets_of_the_same_size(self):
        store = Diagrams()
        a, b, c, d = [store.there(entry) for entry in (1, 2, 3, 4)]
        made = store.disjunction(store.conjunction(a, d), store.conjunction(b, c))
        self.assertEqual(cheapest(store, made, [], {1: 1, 2: 1, 3: 1, 4: 1}), (2, [1, 4]))

    def test_costs_of_nothing(self):
        store = Diagrams()
        a, b = store.there(1), store.there(2)
        self.assertEqual(cheapest(store, store.conjunction(a, b), [], {1: 0, 2: 0}), (0, [1, 2]))
        self.assertEqual(cheapest(store, store.disjunction(a, b), [], {1: 1, 2: 0}), (0, [2]))
        # What does not have to be turned stays as it is.
        self.assertEqual(cheapest(store, a, [2], {1: 0, 2: 0, 3: 0}), (0, [1]))

    def test_input_rows_without_a_cost(self):
        store = Diagrams()
        a, b, c = [store.there(entry) for entry in (1, 2, 3)]
        one = store.disjunction(a, store.conjunction(b, c))
        self.assertEqual(cheapest(store, one, [], {2: 500, 3: 1000}), (1500, [2, 3]))
        self.assertEqual(cheapest(store, one, [2], {3: 7}), (7, [3]))
        self.assertIsNone(cheapest(store, one, [], {2: 0}))
        self.assertIsNone(cheapest(store, one, [], {}))

    def test_no_change_helps(self):
        store = Diagrams()
        self.assertIsNone(cheapest(store, 0, [1], {1: 0, 2: 5}))
        both = store.conjunction(store.there(1), store.negation(store.there(2)))
        self.assertIsNone(cheapest(store, both, [2], {1: 0}))

    def test_it_holds_already(self):
        store = Diagrams()
        both = store.conjunction(store.there(1), store.negation(store.there(2)))
        for costs in ({}, {1: 0, 2: 0}, {1: 3, 2: 3, 9: 0}):
            self.assertEqual(cheapest(store, both, [1], costs), (0, []))
            self.assertEqual(cheapest(store, 1, [1], costs), (0, []))

    def test_arguments_and_results(self):
        store = Diagrams()
        made = store.conjunction(store.there(1), store.there(2))
        present, costs = [7, 7], {2: 1, 1: 2}
        found = cheapest(store, made, present, costs)
        found[1].append(5)
        self.assertEqual(cheapest(store, made, present, costs), (3, [1, 2]))
        self.assertEqual((present, costs), ([7, 7], {2: 1, 1: 2}))


if __name__ == "__main__":
    unittest.main()

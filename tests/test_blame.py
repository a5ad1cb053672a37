"""Point 46: blame."""

import random
import unittest

import models

from lineworks.blame import blame
from lineworks.diagrams import Diagrams

FIVE = (1, 2, 5, 6, 9)


def decides(model, choice, entry, others):
    """Returns whether an input row decides after turning others."""
    turned = choice ^ frozenset(others)
    now = choice in model
    return (turned in model) == now and (turned ^ {entry} in model) != now


def read(model, choice, allowed, entries):
    """Returns who is to blame, out of all input rows and all sets."""
    found = []
    for entry in sorted(set(allowed)):
        others = [other for other in models.subsets(sorted(set(allowed) - {entry}))
                  if decides(model, choice, entry, other & frozenset(entries)) and other <= frozenset(entries)]
        if entry in entries and others:
            found.append((entry, models.in_set_order(others)[0]))
    return found


class Blame(unittest.TestCase):
    def test_against_all_sets(self):
        source = random.Random(46)
        kinds = set()
        for at in range(250):
            entries = FIVE[:source.randint(1, 5)]
            model = models.drawn(source, entries, source.choice([0.1, 0.5, 0.8]))
            if at % 2:
                model = models.drawn_by_formula(source, entries, 3)
            store, made = models.kept(model, entries)
            for _ in range(4):
                choice = frozenset(entry for entry in entries if source.random() < 0.5)
                allowed = [entry for entry in FIVE if source.random() < 0.8]
                source.shuffle(allowed)
                kept = list(allowed)
                found = blame(store, made, sorted(choice), allowed)
                kinds |= {(choice in model, len(others)) for _, others in found}
                self.assertEqual(found, read(model, choice, allowed, entries))
                self.assertEqual(allowed, kept)
        self.assertGreater(len(kinds), 5)

    def setUp(self):
        self.store = store = Diagrams()
        self.a, self.b, self.c = [store.there(entry) for entry in (1, 2, 3)]
        self.either = store.disjunction(self.a, store.conjunction(self.b, self.c))

    def test_an_input_row_that_decides_at_once(self):
        self.assertEqual(blame(self.store, self.a, [1], [1, 2]), [(1, [])])
        self.assertEqual(blame(self.store, self.a, [], [1, 2]), [(1, [])])
        self.assertEqual(blame(self.store, self.either, [], [1, 2, 3]), [(1, []), (2, [3]), (3, [2])])

    def test_others(self):
        self.assertEqual(blame(self.store, self.either, [1, 2, 3], [1, 2, 3]), [(1, [2]), (2, [1]), (3, [1])])
        self.assertEqual(blame(self.store, self.either, [1], [1, 2, 3]), [(1, [])])
        self.assertEqual(blame(self.store, self.either, [2], [3, 2, 1]), [(1, []), (3, [])])

    def test_the_first_of_several_others(self):
        store = Diagrams()
        parts = [store.there(entry) for entry in (1, 2, 3, 4)]
        made = 0
        for part in parts:
            made = store.disjunction(made, part)
        one = store.conjunction(store.there(9), made)
        self.assertEqual(blame(store, one, [], [9, 4, 3, 2, 1])[-1], (9, [1]))
        self.assertEqual(blame(store, one, [], [9, 4, 3, 2])[-1], (9, [2]))
        # Fewer come first, whatever their numbers are.
        pair = store.conjunction(store.there(1), store.there(2))
        two = store.conjunction(store.there(9), store.disjunction(pair, store.there(7)))
        self.assertEqual(blame(store, two, [], [1, 2, 7, 9])[-1], (9, [7]))
        self.assertEqual(blame(store, two, [], [1, 2, 9])[-1], (9, [1, 2]))

    def test_input_rows_that_may_not_be_turned(self):
        self.assertEqual(blame(self.store, self.either, [1, 2, 3], [1, 2]), [(1, [2]), (2, [1])])
        self.assertEqual(blame(self.store, self.either, [1, 2, 3], [2, 3]), [])
        self.assertEqual(blame(self.store, self.either, [1, 2, 3], [1]), [])
        self.assertEqual(blame(self.store, self.either, [2, 3], [2, 3]), [(2, []), (3, [])])
        self.assertEqual(blame(self.store, self.either, [2, 3], []), [])

    def test_on_what_it_does_not_depend(self):
        self.assertEqual(blame(self.store, self.b, [1, 2, 9, 9], [9, 9, 2, 1, 1]), [(2, [])])
        for condition in (0, 1):
            self.assertEqual(blame(self.store, condition, [1], [1, 2]), [])

    def test_arguments_and_results(self):
        present, allowed = [3, 2, 2, 1], [3, 3, 1]
        found = blame(self.store, self.either, present, allowed)
        found[0][1].append(7)
        found.clear()
        self.assertEqual(blame(self.store, self.either, present, allowed), [(1, [3]), (3, [1])])
        self.assertEqual((present, allowed), ([3, 2, 2, 1], [3, 3, 1]))


if __name__ == "__main__":
    unittest.main()

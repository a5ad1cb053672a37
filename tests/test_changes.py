"""Point 45: least changes."""

import itertools
import random
import unittest

import models

from lineworks.changes import changes
from lineworks.diagrams import Diagrams
from lineworks.errors import TooManyChanges

FIVE = (0, 2, 3, 7, 9)


def least_changes(model, choice, allowed):
    """Returns the changes after which a condition holds, and after no smaller part of which it holds, in order."""
    found = [turned for turned in models.subsets(allowed) if choice ^ turned in model]
    return models.in_set_order([turned for turned in found if not any(other < turned for other in found)])


def read(model, choice, allowed, entries):
    """Returns the least changes, and the greatest number of them for one of the diagrams."""
    listed, _ = models.table(model, entries)
    inner = [models.table_model(listed, number, entries) for number in range(2 + len(listed))]
    able = [entry for entry in entries if entry in allowed]
    return least_changes(model, choice, able), max(len(least_changes(each, choice, able)) for each in inner)


def drawn(seed, number, most=4):
    """Yields input rows, the model of a condition, a choice, and input rows that may be turned."""
    source = random.Random(seed)
    for at in range(number):
        used = FIVE[:source.randint(1, most)]
        share = source.choice([0.2, 0.5, 0.7])
        model = models.drawn(source, used, share) if at % 2 else models.drawn_by_formula(source, used, 3)
        for _ in range(4):
            choice = frozenset(entry for entry in used if source.random() < 0.5)
            # Some that the condition asks about are left out, and others are named.
            allowed = [entry for entry in FIVE + (1, 8) if source.random() < 0.8]
            source.shuffle(allowed)
            yield used, model, choice, allowed


class Changes(unittest.TestCase):
    def test_against_all_sets(self):
        kinds = set()
        for entries, model, choice, allowed in drawn(45, 250, 5):
            store, made = models.kept(model, entries)
            kept = list(allowed)
            expected, _ = read(model, choice, allowed, entries)
            kinds.add((choice in model, min(len(expected), 3)))
            self.assertEqual(changes(store, made, sorted(choice), allowed), expected)
            self.assertEqual(allowed, kept)
        self.assertEqual(kinds, {(True, 1), (False, 0), (False, 1), (False, 2), (False, 3)})

    def test_some(self):
        store = Diagrams()
        a, b, c = [store.there(entry) for entry in (1, 2, 3)]
        made = store.disjunction(a, store.conjunction(b, store.negation(c)))
        for present, allowed, expected in (
            ([], [1, 2, 3], [[1], [2]]), ([3], [1, 2, 3], [[1], [2, 3]]), ([2, 3], [3, 2, 1], [[1], [3]]),
            ([3], [2, 3], [[2, 3]]), ([3], [3], []), ([3], [], []), ([3], [1], [[1]]), ([], [2, 9, 2, 2], [[2]]),
        ):
            self.assertEqual(changes(store, made, present, allowed), expected)

    def test_it_holds_already(self):
        store = Diagrams()
        made = store.disjunction(store.there(1), store.conjunction(store.there(2), store.negation(store.there(3))))
        for present in ([1], [2], [1, 2, 3], [1, 3]):
            for allowed in ([], [1], [1, 2, 3], [9]):
                self.assertEqual(changes(store, made, present, allowed), [[]])
                self.assertEqual(changes(store, 1, present, allowed), [[]])

    def test_no_change_helps(self):
        store = Diagrams()
        self.assertEqual(changes(store, 0, [1], [1, 2]), [])
        self.assertEqual(changes(store, 0, [1], [1, 2], most=1), [])
        made = store.conjunction(store.there(1), store.there(2))
        self.assertEqual(changes(store, made, [1], [1, 3]), [])

    def test_the_order(self):
        store = Diagrams()
        a, b, c, d, e = [store.there(entry) for entry in (1, 2, 3, 4, 5)]
        made = 0
        for parts in ((a, b, c), (b, e), (d, e), (a, c, d)):
            one = 1
            for part in parts:
                one = store.conjunction(one, part)
            made = store.disjunction(made, one)
        self.assertEqual(changes(store, made, [], [5, 4, 3, 2, 1]), [[2, 5], [4, 5], [1, 2, 3], [1, 3, 4]])
        self.assertEqual(changes(store, made, [1, 4], [5, 4, 3, 2, 1]), [[3], [5]])

    def test_what_says_nothing(self):
        store = Diagrams()
        made = store.conjunction(store.there(4), store.negation(store.there(6)))
        self.assertEqual(changes(store, made, [9, 6, 6, 0], [4, 4, 6, 0, 9]), [[4, 6]])

    def test_arguments_and_results(self):
        store = Diagrams()
        made = store.disjunction(store.there(4), store.there(6))
        present, allowed = [9, 9], [6, 4, 4]
        found = changes(store, made, present, allowed)
        found[0].append(9)
        found.clear()
        self.assertEqual(changes(store, made, present, allowed), [[4], [6]])
        self.assertEqual((present, allowed), ([9, 9], [6, 4, 4]))


class Limits(unittest.TestCase):
    def test_just_kept_and_just_passed(self):
        inner = 0
        for entries, model, choice, allowed in drawn(46, 250):
            store, made = models.kept(model, entries)
            expected, needed = read(model, choice, allowed, entries)
            # Where the condition itself has fewer, another diagram decides.
            inner += needed > max(1, len(expected))
            self.assertEqual(changes(store, made, sorted(choice), allowed, most=max(1, needed)), expected)
            if needed > 1:
                with self.assertRaises(TooManyChanges):
                    changes(store, made, sorted(choice), allowed, most=needed - 1)
        self.assertGreater(inner, 10)

    def test_a_diagram_inside(self):
        store = Diagrams()
        a, b, c = [store.there(entry) for entry in (1, 2, 3)]
        # It holds already, but the diagram with 1 there would have the changes [2] and [3].
        made = store.disjunction(store.negation(a), store.disjunction(b, c))
        self.assertEqual(changes(store, made, [], [1, 2, 3], most=2), [[]])
        with self.assertRaises(TooManyChanges):
            changes(store, made, [], [1, 2, 3], most=1)
        self.assertEqual(changes(store, made, [], [1, 2], most=1), [[]])

    def test_the_number_that_is_not_given(self):
        for number in (200, 201):
            store = Diagrams()
            made = 0
            for entry in reversed(range(number)):
                made = store.disjunction(store.there(entry), made)
            everything = list(range(number))
            expected = [[entry] for entry in everything]
            self.assertEqual(changes(store, made, [], everything, most=number), expected)
            if number == 200:
                self.assertEqual(changes(store, made, [], everything), expected)
            else:
                self.assertRaises(TooManyChanges, changes, store, made, [], everything)

    def test_many_pairs(self):
        store = Diagrams()
        one, two = 0, 0
        for entry in reversed(range(16)):
            asked = store.there(entry)
            two = store.disjunction(store.conjunction(asked, one), two)
            one = store.disjunction(asked, one)
        expected = [list(pair) for pair in itertools.combinations(range(16), 2)]
        self.assertEqual(changes(store, two, [], list(range(16))), expected)
        self.assertEqual(changes(store, two, [3], list(range(16))), [[at] for at in range(16) if at != 3])
        with self.assertRaises(TooManyChanges):
            changes(store, two, [], list(range(16)), most=119)


if __name__ == "__main__":
    unittest.main()

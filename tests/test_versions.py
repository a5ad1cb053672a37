"""Points 52 and 53: versions held against each other."""

import random
import unittest

import models

from lineworks.diagrams import Diagrams
from lineworks.kept import Version, edit_version, open_version
from lineworks.versions import are_equal, compare, separate, since

T, U = ("table", 0), ("table", 1)


def with_marks(*marks):
    """Returns a version in which the steps have these candidates."""
    return Version([[T] for _ in marks], [], 0, marks, [])


class Compare(unittest.TestCase):
    def test_rows(self):
        old = with_marks([((1,), 2), ((2,), 3), ((3,), 4), ((5,), 1)])
        new = with_marks([((0,), 2), ((2,), 3), ((3,), 2), ((4,), 1), ((5,), 3)])
        self.assertEqual(compare(old, new), [([(1,)], [(0,), (4,)], [(3,), (5,)])])
        self.assertEqual(compare(new, old), [([(0,), (4,)], [(1,)], [(3,), (5,)])])
        self.assertEqual(compare(old, old), [([], [], [])])

    def test_several_steps(self):
        old = with_marks([((1,), 2)], [], [((2,), 1)])
        new = with_marks([((1,), 2)], [((1,), 2)], [((2,), 2)])
        self.assertEqual(compare(old, new), [([], [], []), ([], [(1,)], []), ([], [], [(2,)])])

    def test_steps_in_just_one_of_both(self):
        old, new = with_marks([((1,), 2)]), with_marks([((1,), 2)], [((1,), 2), ((3,), 2)], [])
        self.assertEqual(compare(old, new), [([], [], []), ([], [(1,), (3,)], []), ([], [], [])])
        self.assertEqual(compare(new, old), [([], [], []), ([(1,), (3,)], [], []), ([], [], [])])
        self.assertEqual(compare(with_marks(), with_marks()), [])
        self.assertEqual(compare(with_marks(), old), [([], [(1,)], [])])

    def test_rows_with_other_columns(self):
        old, new = with_marks([((1,), 2), ((2,), 2)]), with_marks([((1, 1), 2), (("1",), 2)])
        self.assertEqual(compare(old, new), [([(1,), (2,)], [(1, 1), ("1",)], [])])

    def test_are_equal(self):
        one = with_marks([((1,), 2)], [])
        for other, expected in (
            (with_marks([((1,), 2)], []), True), (with_marks([((1,), 2)]), True), (with_marks([((1,), 2)], [], []), True),
            (with_marks([((1,), 3)], []), False), (with_marks([], []), False), (with_marks([((1,), 2), ((2,), 2)]), False),
            (with_marks([((1,), 2)], [((1,), 2)]), False), (with_marks([((1,), 2)], [], [((1,), 1)]), False),
            (with_marks([], [((1,), 2)]), False),
        ):
            self.assertIs(are_equal(one, other), expected)
            self.assertIs(are_equal(other, one), expected)
        self.assertIs(are_equal(with_marks(), with_marks([], [])), True)

    def test_an_edit_and_the_edit_that_undoes_it(self):
        store = Diagrams()
        first = open_version(store, [[T], [("step", 0), U, ("minus", 0, 1)]], [1, 1])
        first = edit_version(store, first, ("add", 0, (1,)), [1, 1])
        for there, back in (
            (("add", 1, (1,)), ("remove", 1)), (("change", 0, (4,)), ("change", 0, (1,))),
            (("define", 1, [U]), ("define", 1, first.plans[1])), (("append", [("step", 1)]), ("drop",)),
        ):
            second = edit_version(store, first, there, [1, 1])
            self.assertIs(are_equal(first, second), False)
            third = edit_version(store, second, back, [1, 1])
            self.assertIs(are_equal(first, third), True)
            self.assertEqual(compare(first, third), [([], [], []), ([], [], [])])

    def test_results_are_new(self):
        old, new = with_marks([((1,), 2)]), with_marks([((2,), 2)])
        found = compare(old, new)
        found[0][0].clear()
        found.clear()
        self.assertEqual(compare(old, new), [([(1,)], [(2,)], [])])


class Since(unittest.TestCase):
    def test_conditions(self):
        versions = [with_marks([((1,), at)] if at else []) for at in (1, 3, 0, 2, 2, 5, 5, 5)]
        for number, expected in ((8, 5), (7, 5), (6, 5), (5, 3), (4, 3), (3, 2), (2, 1), (1, 0)):
            self.assertEqual(since(versions[:number], 0, (1,)), expected)
        self.assertEqual(since(versions, 0, (2,)), 0)

    def test_no_candidate_and_no_step(self):
        row = ((1,), 2)
        versions = [with_marks([row]), with_marks([]), with_marks([], [row]), with_marks(), with_marks([], [])]
        # Without a step the condition is never, too.
        self.assertEqual(since(versions, 0, (1,)), 1)
        self.assertEqual(since(versions, 1, (1,)), 3)
        self.assertEqual(since(versions[:3], 1, (1,)), 2)
        self.assertEqual(since(versions[:2], 1, (1,)), 0)
        self.assertEqual(since(versions, 5, (1,)), 0)
        self.assertEqual(since([with_marks([row]), with_marks(), with_marks([row])], 0, (1,)), 2)
        self.assertEqual(since([with_marks([row])], 0, (1,)), 0)


class Separate(unittest.TestCase):
    def test_against_all_choices(self):
        source = random.Random(53)
        entries = (1, 4, 6, 9)
        found = set()
        for _ in range(300):
            store = Diagrams()
            first, second = [models.drawn_by_formula(source, entries, 2) for _ in range(2)]
            conditions = [models.condition(store, model, entries) for model in (first, second)]
            old, new = [with_marks([], [((7,), condition)] if condition else []) for condition in conditions]
            apart = models.in_choice_order(first ^ second)
            found.add(tuple(apart[0]) if apart else None)
            self.assertEqual(separate(store, old, new, 1, (7,)), apart[0] if apart else None)
        self.assertGreater(len(found), 6)

    def test_no_candidate_and_no_step(self):
        store = Diagrams()
        a, b = store.there(3), store.there(5)
        both = with_marks([((1,), store.conjunction(a, b)), ((2,), store.negation(a)), ((3,), 1)])
        for other in (with_marks([]), with_marks()):
            for row, expected in (((1,), [3, 5]), ((2,), []), ((3,), []), ((4,), None)):
                self.assertEqual(separate(store, both, other, 0, row), expected)
                self.assertEqual(separate(store, other, both, 0, row), expected)
        self.assertIsNone(separate(store, both, both, 0, (1,)))
        self.assertIsNone(separate(store, both, both, 3, (1,)))

    def test_the_first_choice(self):
        store = Diagrams()
        a, b, c = [store.there(entry) for entry in (1, 2, 3)]
        old = with_marks([((1,), store.disjunction(a, store.conjunction(b, c)))])
        for condition, expected in ((0, [2, 3]), (1, []), (store.conjunction(b, c), [1]), (a, [2, 3]), (b, [2])):
            self.assertEqual(separate(store, old, with_marks([((1,), condition)]), 0, (1,)), expected)


if __name__ == "__main__":
    unittest.main()

"""Point 31: cases."""

import itertools
import random
import unittest

import models

from lineworks.cases import cases
from lineworks.diagrams import Diagrams
from lineworks.errors import TooManyCases

FOUR = (1, 3, 4, 8)
# Tables of conditions that have one kind of condition in their covers that is greater than all others.
# What is called high of A and high of B is never greater than the condition that it is a part of.
DECISIVE = {
    "low of A": ([(4, 0, 1), (1, 1, 2), (2, 2, 0), (0, 3, 4)], 5),
    "low of B": ([(4, 0, 1), (3, 0, 2), (2, 1, 2), (1, 3, 4)], 5),
    "low of C": ([(3, 1, 0), (4, 0, 1), (3, 1, 3), (2, 2, 4), (1, 1, 5), (0, 6, 4)], 7),
    "high of C": ([(3, 0, 1), (1, 2, 1), (4, 0, 1), (2, 4, 1), (0, 3, 5)], 6),
    "last of A": ([(6, 0, 1), (6, 1, 0), (5, 2, 3), (4, 3, 4), (2, 2, 5), (2, 1, 0), (1, 6, 7)], 8),
    "last of B": ([(5, 0, 1), (5, 1, 0), (4, 2, 3), (3, 0, 4), (2, 5, 4), (1, 0, 6), (0, 0, 7)], 8),
    "rest of A": ([(5, 1, 0), (4, 2, 1), (4, 0, 1), (3, 4, 3), (2, 3, 5), (1, 6, 5)], 7),
    "rest of B": ([(4, 0, 1), (3, 2, 1), (3, 0, 1), (2, 3, 4), (1, 5, 3), (0, 5, 6)], 7),
}


class Reading:
    """A straight reading of the rule of cover over models. Sizes are written down by what they are sizes of."""

    def __init__(self, model, entries):
        self.entries = entries
        self.sizes = {"first": models.size([model], entries)}
        self.cases = self.cover(model, model)

    def note(self, kind, model):
        self.sizes[kind] = max(self.sizes.get(kind, 0), models.size([model], self.entries))

    def inner(self, name, low, high):
        self.note(f"low of {name}", low)
        self.note(f"high of {name}", high)
        return self.cover(low, high)

    def cover(self, low, high):
        if not low:
            return []
        if high == models.always(self.entries):
            return [([], [])]
        entry = min(models.depends(low, self.entries) + models.depends(high, self.entries))
        low_0, low_1 = [models.restricted(low, entry, is_there) for is_there in (False, True)]
        high_0, high_1 = [models.restricted(high, entry, is_there) for is_there in (False, True)]
        first = self.inner("A", low_0 - high_1, high_0)
        second = self.inner("B", low_1 - high_0, high_1)
        rest = self.rest("A", low_0, first) | self.rest("B", low_1, second)
        third = self.inner("C", rest, high_0 & high_1)
        return ([(there, [entry] + missing) for there, missing in first]
                + [([entry] + there, missing) for there, missing in second] + third)

    def rest(self, name, low, found):
        for number in range(len(found) + 1):
            self.note(f"last of {name}", self.applied(found[len(found) - number:]))
        left = low - self.applied(found)
        self.note(f"rest of {name}", left)
        return left

    def applied(self, found):
        return frozenset(choice for choice in models.subsets(self.entries) if any(applies(case, choice)
                                                                                  for case in found))


def applies(case, choice):
    there, missing = case
    return all(entry in choice for entry in there) and not any(entry in choice for entry in missing)


def drawn(seed, number, entries=FOUR):
    source = random.Random(seed)
    for at in range(number):
        used = entries[:source.randint(1, len(entries))]
        share = source.choice([0.25, 0.5, 0.75])
        yield used, models.drawn(source, used, share) if at % 3 else models.drawn_by_formula(source, used, 3)


class Cases(unittest.TestCase):
    def test_never_and_always(self):
        store = Diagrams()
        self.assertEqual((cases(store, 0), cases(store, 1)), ([], [([], [])]))

    def test_some(self):
        store = Diagrams()
        a, b, c = [store.there(entry) for entry in (1, 2, 3)]
        for made, expected in (
            (a, [([1], [])]), (store.negation(b), [([], [2])]),
            (store.conjunction(a, store.negation(c)), [([1], [3])]),
            (store.disjunction(a, b), [([1], []), ([2], [])]),
            (store.differs(a, b), [([2], [1]), ([1], [2])]),
            (store.disjunction(store.conjunction(a, b), store.conjunction(store.negation(a), c)),
             [([3], [1]), ([1, 2], [])]),
            (store.disjunction(store.conjunction(a, b), c), [([1, 2], []), ([3], [])]),
        ):
            self.assertEqual(cases(store, made), expected)

    def test_against_a_straight_reading(self):
        for entries, model in drawn(31, 400):
            store, made = models.kept(model, entries)
            self.assertEqual(cases(store, made), Reading(model, entries).cases)

    def test_all_conditions_over_three_input_rows(self):
        choices = models.subsets(FOUR[:3])
        for taken in itertools.product((False, True), repeat=8):
            model = frozenset(choice for choice, is_taken in zip(choices, taken) if is_taken)
            store, made = models.kept(model, FOUR[:3])
            self.assertEqual(cases(store, made), Reading(model, FOUR[:3]).cases)

    def test_one_case_applies_just_where_the_condition_holds(self):
        for entries, model in drawn(32, 100):
            store, made = models.kept(model, entries)
            found = cases(store, made)
            for choice in models.subsets(entries):
                self.assertEqual(any(applies(case, choice) for case in found), choice in model)

    def test_lists_are_ascending_and_new(self):
        for entries, model in drawn(33, 50):
            store, made = models.kept(model, entries)
            found = cases(store, made)
            expected = [(list(there), list(missing)) for there, missing in found]
            for there, missing in found:
                self.assertEqual((there, missing), (sorted(set(there)), sorted(set(missing))))
                there.append(99)
                missing.append(98)
            found.clear()
            self.assertEqual(cases(store, made), expected)


class Limits(unittest.TestCase):
    def refused(self, store, made, **limits):
        with self.assertRaises(TooManyCases):
            cases(store, made, **limits)

    def test_the_number_of_cases(self):
        for entries, model in drawn(34, 150):
            store, made = models.kept(model, entries)
            expected = Reading(model, entries).cases
            self.assertEqual(cases(store, made, most_cases=len(expected)), expected)
            if expected:
                self.refused(store, made, most_cases=len(expected) - 1)

    def test_the_sizes(self):
        for entries, model in drawn(35, 250):
            store, made = models.kept(model, entries)
            reading = Reading(model, entries)
            greatest = max(reading.sizes.values())
            self.assertEqual(cases(store, made, most_nodes=greatest), reading.cases)
            if greatest:
                self.refused(store, made, most_nodes=greatest - 1)

    def test_each_kind_of_condition_counts(self):
        for kind, (nodes, root) in DECISIVE.items():
            with self.subTest(kind):
                entries = tuple(sorted({entry for entry, _, _ in nodes}))
                store, made = models.kept(models.table_model(nodes, root, entries), entries)
                reading = Reading(models.model_of(store, made, entries), entries)
                others = max(size for other, size in reading.sizes.items() if other != kind)
                self.assertLess(others, reading.sizes[kind])
                self.refused(store, made, most_nodes=others)
                self.assertEqual(cases(store, made, most_nodes=reading.sizes[kind]), reading.cases)

    def test_no_limits_are_needed_by_never_and_always(self):
        store = Diagrams()
        self.assertEqual(cases(store, 0, most_cases=0, most_nodes=0), [])
        self.assertEqual(cases(store, 1, most_cases=1, most_nodes=0), [([], [])])
        self.refused(store, 1, most_cases=0)

    def test_the_number_that_is_not_given(self):
        # Each set with an odd number of members is a case of its own.
        for number, more in ((8, 1), (8, 72), (8, 73)):
            store = Diagrams()
            made = 0
            for entry in reversed(range(number)):
                made = store.differs(made, store.there(entry))
            for entry in range(100, 100 + more):
                made = store.disjunction(made, store.there(entry))
            if 128 + more <= 200:
                self.assertEqual(len(cases(store, made)), 128 + more)
            else:
                self.refused(store, made)
                self.assertEqual(len(cases(store, made, most_cases=128 + more)), 128 + more)

    def test_the_size_that_is_not_given(self):
        for number in (500, 501):
            store = Diagrams()
            made = 1
            for entry in reversed(range(number)):
                made = store.conjunction(store.there(entry), made)
            if number <= 500:
                self.assertEqual(cases(store, made), [(list(range(number)), [])])
            else:
                self.refused(store, made)

    def test_an_error_changes_nothing(self):
        store = Diagrams()
        made = store.differs(store.there(1), store.there(2))
        table = store.table(made)
        self.refused(store, made, most_cases=1)
        self.refused(store, made, most_nodes=2)
        self.assertEqual((store.table(made), cases(store, made)), (table, [([2], [1]), ([1], [2])]))


if __name__ == "__main__":
    unittest.main()

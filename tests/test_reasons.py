"""Point 32: reasons."""

import itertools
import random
import unittest

import models

from lineworks.diagrams import Diagrams
from lineworks.errors import TooManyReasons
from lineworks.reasons import reasons

FOUR = (0, 2, 3, 7)


def forces(numbers, model, choice, entries):
    """Returns whether a condition holds for all choices that agree with a choice on a set."""
    return all(other in model for other in models.subsets(entries)
               if all((entry in other) == (entry in choice) for entry in numbers))


def forcing_sets(model, choice, entries):
    """Returns the sets that force a condition, and would not without any one of their members, in order."""
    found = [numbers for numbers in models.subsets(entries) if forces(numbers, model, choice, entries)
             and not any(forces(numbers - {entry}, model, choice, entries) for entry in numbers)]
    return models.in_set_order(found)


def read(model, choice, entries):
    """Returns the reasons, and the greatest number of such sets for one of the diagrams."""
    told = model if choice in model else models.negation(model, entries)
    listed, _ = models.table(told, entries)
    inner = [models.table_model(listed, number, entries) for number in range(2 + len(listed))]
    numbers = [len(forcing_sets(each, choice, entries)) for each in inner]
    return forcing_sets(told, choice, entries), max(numbers)


def drawn(seed, number, most=4):
    source = random.Random(seed)
    for at in range(number):
        used = FOUR[:source.randint(1, most)]
        share = source.choice([0.3, 0.5, 0.7])
        model = models.drawn(source, used, share) if at % 2 else models.drawn_by_formula(source, used, 3)
        yield used, model


class Reasons(unittest.TestCase):
    def test_never_and_always(self):
        store = Diagrams()
        for present in ([], [1, 4]):
            self.assertEqual((reasons(store, 0, present), reasons(store, 1, present)), ([[]], [[]]))
            self.assertEqual((reasons(store, 0, present, most=1), reasons(store, 1, present, most=1)), ([[]], [[]]))

    def test_against_all_sets(self):
        answers = set()
        for entries, model in drawn(32, 120):
            store, made = models.kept(model, entries)
            for choice in models.subsets(entries):
                answers.add(choice in model)
                expected, _ = read(model, choice, entries)
                self.assertEqual(reasons(store, made, sorted(choice)), expected)
        self.assertEqual(answers, {False, True})

    def test_some(self):
        store = Diagrams()
        a, b, c = [store.there(entry) for entry in (1, 2, 3)]
        most = store.disjunction(store.conjunction(a, b), store.conjunction(c, store.disjunction(a, b)))
        for present, expected in (
            ([1, 2, 3], [[1, 2], [1, 3], [2, 3]]), ([1, 2], [[1, 2]]), ([3], [[1, 2]]), ([], [[1, 2], [1, 3], [2, 3]]),
        ):
            self.assertEqual(reasons(store, most, present), expected)
        either = store.disjunction(a, store.conjunction(b, c))
        for present, expected in (
            ([1, 2, 3], [[1], [2, 3]]), ([2, 3], [[2, 3]]), ([2], [[1, 3]]), ([], [[1, 2], [1, 3]]), ([1], [[1]]),
        ):
            self.assertEqual(reasons(store, either, present), expected)

    def test_smaller_sets_come_first(self):
        store = Diagrams()
        a, b, c, d, e = [store.there(entry) for entry in (1, 2, 3, 4, 5)]
        parts = [store.conjunction(store.conjunction(a, b), c), store.conjunction(d, e), store.conjunction(b, e),
                 store.conjunction(store.conjunction(a, c), d)]
        made = 0
        for part in parts:
            made = store.disjunction(made, part)
        self.assertEqual(reasons(store, made, [1, 2, 3, 4, 5]), [[2, 5], [4, 5], [1, 2, 3], [1, 3, 4]])
        self.assertEqual(reasons(store, store.disjunction(made, c), [1, 2, 3, 4, 5]), [[3], [2, 5], [4, 5]])

    def test_what_says_nothing(self):
        store = Diagrams()
        made = store.conjunction(store.there(4), store.negation(store.there(6)))
        self.assertEqual(reasons(store, made, [9, 4, 4, 0]), [[4, 6]])
        self.assertEqual(reasons(store, made, [6, 6, 5]), [[4], [6]])

    def test_arguments_and_results(self):
        store = Diagrams()
        made = store.disjunction(store.there(4), store.there(6))
        present = [6, 4, 4]
        found = reasons(store, made, present)
        found[0].append(9)
        found.clear()
        self.assertEqual((reasons(store, made, present), present), ([[4], [6]], [6, 4, 4]))


class Limits(unittest.TestCase):
    def test_just_kept_and_just_passed(self):
        inner = 0
        for entries, model in drawn(33, 120):
            store, made = models.kept(model, entries)
            for choice in models.subsets(entries):
                expected, needed = read(model, choice, entries)
                # Where the condition itself has fewer, another diagram decides.
                inner += needed > max(1, len(expected))
                self.assertEqual(reasons(store, made, sorted(choice), most=max(1, needed)), expected)
                if needed > 1:
                    with self.assertRaises(TooManyReasons):
                        reasons(store, made, sorted(choice), most=needed - 1)
        self.assertGreater(inner, 20)

    def test_a_diagram_inside(self):
        store = Diagrams()
        a, b, c = [store.there(entry) for entry in (1, 2, 3)]
        # For [1, 2, 3] the diagram there has the sets [2] and [3], but the whole one has [2, 3] alone.
        made = store.disjunction(store.conjunction(b, c), store.conjunction(store.negation(a), store.disjunction(b, c)))
        self.assertEqual(reasons(store, made, [1, 2, 3], most=2), [[2, 3]])
        with self.assertRaises(TooManyReasons):
            reasons(store, made, [1, 2, 3], most=1)

    def test_the_number_that_is_not_given(self):
        for number, least in ((200, 1), (201, 1), (10, 3), (12, 3)):
            store = Diagrams()
            # At least some of the input rows are there: for all of them each such set is a reason.
            counts = [1] + [0] * least
            for entry in reversed(range(number)):
                counts = [1] + [self.either(store, entry, counts[at - 1], counts[at]) for at in range(1, least + 1)]
            expected = [list(each) for each in itertools.combinations(range(number), least)]
            if len(expected) <= 200:
                self.assertEqual(reasons(store, counts[-1], list(range(number))), expected)
            else:
                with self.assertRaises(TooManyReasons):
                    reasons(store, counts[-1], list(range(number)))
                self.assertEqual(reasons(store, counts[-1], list(range(number)), most=len(expected)), expected)

    def either(self, store, entry, with_it, without):
        asked = store.there(entry)
        return store.disjunction(store.conjunction(asked, with_it), store.conjunction(store.negation(asked), without))


if __name__ == "__main__":
    unittest.main()

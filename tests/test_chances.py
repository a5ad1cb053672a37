"""Point 48: chances."""

import fractions
import random
import unittest

import models

from lineworks.chances import chance, chances_given
from lineworks.diagrams import Diagrams

FIVE = (0, 2, 3, 7, 9)


def probability(choices, cases, entries, of):
    """Returns how probable it is that one of some choices is there."""
    total = fractions.Fraction(0)
    for choice in choices:
        one = fractions.Fraction(1)
        for entry in entries:
            one *= fractions.Fraction(cases[entry] if entry in choice else of - cases[entry], of)
        total += one
    return total


def told(fraction):
    return fraction.numerator, fraction.denominator


def read_given(model, cases, entries, of):
    whole = probability(model, cases, entries, of)
    if whole == 0:
        return None
    return [(entry,) + told(probability([choice for choice in model if entry in choice], cases, entries, of) / whole)
            for entry in entries]


def drawn(seed, number):
    """Yields input rows, the model of a condition, numbers of cases, and out of how many these are."""
    source = random.Random(seed)
    for at in range(number):
        entries = FIVE[:source.randint(1, 5)]
        model = models.drawn(source, entries, source.choice([0.1, 0.5, 0.8]))
        if at % 2:
            model = models.drawn_by_formula(source, entries, 3)
        of = source.choice([1, 2, 6, 1000])
        cases = {entry: source.choice([0, of, source.randint(0, of), source.randint(0, of)]) for entry in FIVE}
        yield entries, model, cases, of


class Chance(unittest.TestCase):
    def test_against_all_choices(self):
        found = set()
        for entries, model, cases, of in drawn(48, 400):
            store, made = models.kept(model, entries)
            kept = dict(cases)
            expected = told(probability(model, cases, entries, of))
            found.add(expected)
            self.assertEqual(chance(store, made, cases, of=of), expected)
            if of == 1000:
                self.assertEqual(chance(store, made, cases), expected)
            self.assertEqual(cases, kept)
        self.assertTrue({(0, 1), (1, 1), (1, 2)} <= found)
        self.assertGreater(len(found), 50)

    def test_some(self):
        store = Diagrams()
        a, b = store.there(4), store.there(6)
        both, either = store.conjunction(a, b), store.disjunction(a, b)
        for condition, cases, of, expected in (
            (a, {4: 250}, 1000, (1, 4)), (store.negation(a), {4: 250}, 1000, (3, 4)), (both, {4: 1, 6: 1}, 2, (1, 4)),
            (either, {4: 1, 6: 1}, 2, (3, 4)), (both, {4: 2, 6: 3}, 6, (1, 6)), (either, {4: 0, 6: 3}, 3, (1, 1)),
            (both, {4: 0, 6: 3}, 3, (0, 1)), (both, {4: 1, 6: 1}, 1, (1, 1)), (both, {4: 999, 6: 999}, 1000,
                                                                            (998001, 1000000)),
        ):
            self.assertEqual(chance(store, condition, cases, of=of), expected)

    def test_never_and_always(self):
        store = Diagrams()
        self.assertEqual((chance(store, 0, {}), chance(store, 1, {})), ((0, 1), (1, 1)))
        self.assertEqual((chance(store, 0, {3: 5}, of=7), chance(store, 1, {3: 5}, of=7)), ((0, 1), (1, 1)))

    def test_many_input_rows(self):
        store = Diagrams()
        made = 1
        for entry in reversed(range(60)):
            made = store.conjunction(store.there(entry), made)
        cases = {entry: 1 for entry in range(60)}
        self.assertEqual(chance(store, made, cases), (1, 1000 ** 60))
        self.assertEqual(chance(store, store.negation(made), cases), (1000 ** 60 - 1, 1000 ** 60))


class Given(unittest.TestCase):
    def test_against_all_choices(self):
        nothing = 0
        for entries, model, cases, of in drawn(49, 300):
            store, made = models.kept(model, entries)
            kept = dict(cases)
            # All five: the condition does not depend on all of them.
            wide = [choice for choice in models.subsets(FIVE) if choice & frozenset(entries) in model]
            expected = read_given(wide, cases, FIVE, of)
            nothing += expected is None
            self.assertEqual(chances_given(store, made, cases, list(FIVE), of=of), expected)
            if of == 1000:
                self.assertEqual(chances_given(store, made, cases, list(FIVE)), expected)
            self.assertEqual(cases, kept)
        self.assertGreater(nothing, 20)

    def test_some(self):
        store = Diagrams()
        a, b = store.there(4), store.there(6)
        either = store.disjunction(a, b)
        cases = {2: 0, 4: 500, 6: 500, 8: 1000, 9: 250}
        self.assertEqual(chances_given(store, either, cases, [2, 4, 6, 8, 9]),
                         [(2, 0, 1), (4, 2, 3), (6, 2, 3), (8, 1, 1), (9, 1, 4)])
        self.assertEqual(chances_given(store, store.negation(either), cases, [4, 9]), [(4, 0, 1), (9, 1, 4)])
        self.assertEqual(chances_given(store, either, cases, []), [])
        self.assertEqual(chances_given(store, 1, {5: 2}, [5], of=6), [(5, 1, 3)])

    def test_none_exactly_if_the_chance_is_nothing(self):
        store = Diagrams()
        both = store.conjunction(store.there(4), store.there(6))
        self.assertIsNone(chances_given(store, both, {4: 0, 6: 1000}, [4, 6]))
        self.assertIsNone(chances_given(store, store.negation(both), {4: 1000, 6: 1000}, [4, 6]))
        self.assertIsNone(chances_given(store, 0, {}, []))
        self.assertEqual(chances_given(store, both, {4: 1, 6: 1}, [4, 6]), [(4, 1, 1), (6, 1, 1)])

    def test_arguments_and_results(self):
        store = Diagrams()
        made = store.there(4)
        cases, entries = {4: 3, 6: 1}, [4, 6]
        chances_given(store, made, cases, entries).clear()
        self.assertEqual(chances_given(store, made, cases, entries), [(4, 1, 1), (6, 1, 1000)])
        self.assertEqual((cases, entries), ({4: 3, 6: 1}, [4, 6]))


if __name__ == "__main__":
    unittest.main()

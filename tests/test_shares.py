"""Point 47: shares."""

import fractions
import itertools
import math
import random
import unittest

import models

from lineworks.diagrams import Diagrams
from lineworks.lowest import lowest_terms
from lineworks.shares import shares

FIVE = (1, 2, 5, 6, 9)


def read(model, choice, entries):
    """Returns the shares, order by order."""
    able = [entry for entry in models.depends(model, entries) if entry in choice]
    added = {entry: 0 for entry in able}
    for order in itertools.permutations(able):
        for at, entry in enumerate(order):
            added[entry] += (frozenset(order[:at + 1]) in model) - (frozenset(order[:at]) in model)
    found = {entry: fractions.Fraction(added[entry], math.factorial(len(able))) for entry in able}
    return [(entry, found[entry].numerator, found[entry].denominator) for entry in able]


class Shares(unittest.TestCase):
    def test_against_all_orders(self):
        source = random.Random(47)
        signs = set()
        for at in range(250):
            entries = FIVE[:source.randint(1, 5)]
            model = models.drawn(source, entries, source.choice([0.1, 0.5, 0.8]))
            if at % 2:
                model = models.drawn_by_formula(source, entries, 4)
            store, made = models.kept(model, entries)
            for share in (0.6, 0.9):
                choice = frozenset(entry for entry in entries if source.random() < share)
                found = shares(store, made, sorted(choice))
                signs |= {(part > 0) - (part < 0) for _, part, _ in found}
                self.assertEqual(found, read(model, choice, entries))
        self.assertEqual(signs, {-1, 0, 1})

    def setUp(self):
        self.store = store = Diagrams()
        self.a, self.b, self.c, self.d = [store.there(entry) for entry in (1, 2, 3, 4)]
        self.either = store.disjunction(self.a, store.conjunction(self.b, self.c))

    def test_it_becomes_true(self):
        self.assertEqual(shares(self.store, self.a, [1]), [(1, 1, 1)])
        self.assertEqual(shares(self.store, self.store.conjunction(self.a, self.b), [1, 2]), [(1, 1, 2), (2, 1, 2)])
        self.assertEqual(shares(self.store, self.either, [1, 2, 3]), [(1, 2, 3), (2, 1, 6), (3, 1, 6)])

    def test_it_becomes_false(self):
        none = self.store.negation(self.either)
        self.assertEqual(shares(self.store, none, [1, 2, 3]), [(1, -2, 3), (2, -1, 6), (3, -1, 6)])
        self.assertEqual(shares(self.store, self.store.negation(self.a), [1]), [(1, -1, 1)])

    def test_it_goes_to_and_fro(self):
        odd = self.store.differs(self.store.differs(self.a, self.b), self.c)
        self.assertEqual(shares(self.store, odd, [1, 2, 3]), [(1, 1, 3), (2, 1, 3), (3, 1, 3)])
        one = self.store.conjunction(self.a, self.store.negation(self.b))
        self.assertEqual(shares(self.store, one, [1, 2]), [(1, 1, 2), (2, -1, 2)])

    def test_a_share_of_nothing(self):
        even = self.store.differs(self.a, self.b)
        self.assertEqual(shares(self.store, even, [1, 2]), [(1, 0, 1), (2, 0, 1)])
        # It depends on 2, but without 3 it makes no difference.
        self.assertEqual(shares(self.store, self.either, [1, 2]), [(1, 1, 1), (2, 0, 1)])
        self.assertEqual(shares(self.store, self.either, [2]), [(2, 0, 1)])

    def test_input_rows_that_are_not_there(self):
        self.assertEqual(shares(self.store, self.either, []), [])
        self.assertEqual(shares(self.store, self.either, [2, 3]), [(2, 1, 2), (3, 1, 2)])
        one = self.store.conjunction(self.a, self.store.negation(self.b))
        self.assertEqual(shares(self.store, one, [1]), [(1, 1, 1)])

    def test_on_what_it_does_not_depend(self):
        self.assertEqual(shares(self.store, self.either, [9, 3, 3, 4, 2, 0]), [(2, 1, 2), (3, 1, 2)])
        for condition in (0, 1):
            self.assertEqual(shares(self.store, condition, [1, 2]), [])

    def test_the_sum_of_the_shares(self):
        source = random.Random(48)
        for _ in range(60):
            model = models.drawn(source, FIVE)
            store, made = models.kept(model, FIVE)
            choice = frozenset(entry for entry in FIVE if source.random() < 0.8)
            total = sum(fractions.Fraction(part, whole) for _, part, whole in shares(store, made, sorted(choice)))
            able = choice & frozenset(models.depends(model, FIVE))
            self.assertEqual(total, (able in model) - (frozenset() in model))

    def test_many_input_rows(self):
        for number, least in ((60, 30), (60, 1), (60, 60), (45, 7)):
            store = Diagrams()
            # At least some of the input rows are there.
            counts = [1] + [0] * least
            for entry in reversed(range(number)):
                asked = store.there(entry)
                counts = [1] + [store.disjunction(store.conjunction(asked, counts[at - 1]), counts[at])
                                for at in range(1, least + 1)]
            self.assertEqual(shares(store, counts[-1], list(range(number))), [(at, 1, number) for at in range(number)])

    def test_arguments_and_results(self):
        present = [3, 2, 2]
        shares(self.store, self.either, present).clear()
        self.assertEqual(shares(self.store, self.either, present), [(2, 1, 2), (3, 1, 2)])
        self.assertEqual(present, [3, 2, 2])


class LowestTerms(unittest.TestCase):
    def test_lowest_terms(self):
        for fraction, expected in (((6, 4), (3, 2)), ((-6, 4), (-3, 2)), ((0, 720), (0, 1)), ((5, 5), (1, 1)),
                                   ((-4, 1), (-4, 1)), ((7, 720), (7, 720))):
            self.assertEqual(lowest_terms(*fraction), expected)


if __name__ == "__main__":
    unittest.main()

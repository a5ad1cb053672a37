"""Points 26 to 30 and 34: conditions, their diagrams, sizes and tables, and what is asked about them."""

import itertools
import random
import unittest

import models

from lineworks.diagrams import Diagrams

THREE = [2, 5, 9]
FIVE = [0, 1, 4, 7, 30]


def drawn_models(seed, number, entries=None):
    """Returns (entries, model) for models made at random over up to five input rows."""
    source = random.Random(seed)
    made = []
    for at in range(number):
        used = sorted(source.sample(range(40), source.randint(1, 5))) if entries is None else entries
        if at % 2:
            made.append((used, models.drawn(source, used, source.choice([0.2, 0.5, 0.8]))))
        else:
            made.append((used, models.drawn_by_formula(source, used, 4)))
    return made


class Leaves(unittest.TestCase):
    def test_never_and_always(self):
        store = Diagrams()
        a = store.there(3)
        self.assertEqual(store.conjunction(a, store.negation(a)), 0)
        self.assertEqual(store.disjunction(a, store.negation(a)), 1)
        self.assertEqual((store.negation(0), store.negation(1)), (1, 0))
        self.assertEqual((store.differs(a, a), store.differs(a, store.negation(a))), (0, 1))
        self.assertEqual((store.restrict(a, 3, True), store.restrict(a, 3, False)), (1, 0))

    def test_never_and_always_as_operands(self):
        store = Diagrams()
        a = store.there(0)
        self.assertEqual([store.conjunction(0, a), store.conjunction(a, 0), store.disjunction(a, 0)], [0, 0, a])
        self.assertEqual([store.conjunction(1, a), store.conjunction(a, 1), store.disjunction(1, a)], [a, a, 1])
        self.assertEqual([store.differs(0, a), store.differs(1, a)], [a, store.negation(a)])
        for first, second in itertools.product((0, 1), repeat=2):
            self.assertEqual(store.conjunction(first, second), first & second)
            self.assertEqual(store.disjunction(first, second), first | second)
            self.assertEqual(store.differs(first, second), first ^ second)

    def test_they_hold_for_no_choice_and_for_each_one(self):
        store = Diagrams()
        for present in ([], [0], [4, 9]):
            self.assertIs(store.holds(0, present), False)
            self.assertIs(store.holds(1, present), True)


class SameConditions(unittest.TestCase):
    def test_all_conditions_over_three_input_rows(self):
        store = Diagrams()
        choices = models.subsets(THREE)
        made = {}
        for taken in itertools.product((False, True), repeat=8):
            model = frozenset(choice for choice, is_taken in zip(choices, taken) if is_taken)
            number = models.condition(store, model, THREE)
            self.assertEqual(models.model_of(store, number, THREE), model)
            made[number] = model
        self.assertEqual(len(made), 256)
        self.assertEqual((made[0], made[1]), (models.never(), models.always(THREE)))
        self.assertTrue(all(isinstance(number, int) and number >= 0 for number in made))

    def test_different_ways_to_build_one(self):
        source = random.Random(26)
        store = Diagrams()
        for entries, model in drawn_models(27, 60):
            expected = models.condition(store, model, entries)
            self.assertEqual(self.from_cases(store, source, model, entries), expected)
            self.assertEqual(self.from_clauses(store, source, model, entries), expected)
            self.assertEqual(self.from_differences(store, source, model, entries), expected)
            self.assertEqual(self.from_its_parts(store, source, model, list(entries)), expected)
            other = models.condition(store, models.negation(model, entries), entries)
            self.assertEqual(store.negation(other), expected)
            self.assertEqual(store.negation(store.negation(expected)), expected)

    def shuffled(self, source, parts):
        parts = sorted(parts, key=sorted)
        source.shuffle(parts)
        return parts

    def from_cases(self, store, source, model, entries):
        made = 0
        for choice in self.shuffled(source, model):
            entries = list(entries)
            source.shuffle(entries)
            made = store.disjunction(models.condition_of_choice(store, choice, entries), made)
        return made

    def from_clauses(self, store, source, model, entries):
        made = 1
        for choice in self.shuffled(source, models.negation(model, entries)):
            clause = 0
            for entry in entries:
                asked = store.there(entry)
                clause = store.disjunction(clause, store.negation(asked) if entry in choice else asked)
            made = store.conjunction(made, clause)
        return made

    def from_differences(self, store, source, model, entries):
        made = 0
        for choice in self.shuffled(source, model):
            made = store.differs(made, models.condition_of_choice(store, choice, entries))
        return made

    def from_its_parts(self, store, source, model, left):
        if not left:
            return 1 if model else 0
        entry = left.pop(source.randrange(len(left)))
        with_it = self.from_its_parts(store, source, frozenset(c - {entry} for c in model if entry in c), list(left))
        without = self.from_its_parts(store, source, frozenset(c for c in model if entry not in c), list(left))
        asked = store.there(entry)
        return store.disjunction(store.conjunction(asked, with_it), store.conjunction(store.negation(asked), without))

    def test_connectives(self):
        drawn = drawn_models(30, 60, FIVE)
        for (_, first), (_, second) in zip(drawn, drawn[1:]):
            store = Diagrams()
            one, other = models.condition(store, first, FIVE), models.condition(store, second, FIVE)
            for made, expected in (
                (store.conjunction(one, other), first & second), (store.disjunction(one, other), first | second),
                (store.differs(one, other), first ^ second), (store.negation(one), models.negation(first, FIVE)),
            ):
                self.assertEqual(models.model_of(store, made, FIVE), expected)
                self.assertEqual(made, models.condition(store, expected, FIVE))

    def test_conditions_are_from_two_on(self):
        store = Diagrams()
        made = [store.there(entry) for entry in (8, 0, 1000000)]
        self.assertEqual(len(set(made)), 3)
        self.assertTrue(all(number >= 2 for number in made))
        self.assertEqual([store.there(entry) for entry in (8, 0, 1000000)], made)

    def test_stores_have_nothing_in_common(self):
        first, second = Diagrams(), Diagrams()
        kept = [first.there(1), first.conjunction(first.there(1), first.there(2))]
        for entry in range(9, 0, -1):
            second.conjunction(second.there(entry), second.negation(second.there(entry + 1)))
        self.assertEqual([first.table(number) for number in kept], [([(1, 0, 1)], 2), ([(2, 0, 1), (1, 0, 2)], 3)])

    def test_holds(self):
        store = Diagrams()
        made = store.conjunction(store.there(5), store.negation(store.there(2)))
        for present, answer in (([5], True), ([2, 5], False), ([], False), ([2], False), ([9, 5, 5, 0], True),
                                ([5, 2, 5], False), ([1, 3, 4], False)):
            self.assertIs(store.holds(made, present), answer)


class Nodes(unittest.TestCase):
    def test_the_input_rows_on_which_a_condition_depends(self):
        store = Diagrams()
        a, b, c = [store.there(entry) for entry in (7, 3, 5)]
        self.assertEqual(store.depends(store.conjunction(a, store.disjunction(b, c))), [3, 5, 7])
        without_b = store.disjunction(store.conjunction(a, b), store.conjunction(a, store.negation(b)))
        self.assertEqual(store.depends(without_b), [7])
        self.assertEqual((store.depends(0), store.depends(1)), ([], []))

    def test_depends_against_all_choices(self):
        for entries, model in drawn_models(28, 80):
            store, made = models.kept(model, entries)
            self.assertEqual(store.depends(made), models.depends(model, entries))

    def test_tables(self):
        for entries, model in drawn_models(29, 120):
            store, made = models.kept(model, entries)
            self.assertEqual(store.table(made), models.table(model, entries))

    def test_tables_of_leaves(self):
        store = Diagrams()
        self.assertEqual((store.table(0), store.table(1)), (([], 0), ([], 1)))

    def test_the_side_without_comes_first(self):
        store = Diagrams()
        a, b, c = [store.there(entry) for entry in (1, 2, 3)]
        # The side there is built first, and has the greater input row.
        both = store.disjunction(store.conjunction(a, c), store.conjunction(store.negation(a), b))
        self.assertEqual(store.table(both), ([(2, 0, 1), (3, 0, 1), (1, 2, 3)], 4))
        both = store.disjunction(store.conjunction(a, b), store.conjunction(store.negation(a), c))
        self.assertEqual(store.table(both), ([(3, 0, 1), (2, 0, 1), (1, 2, 3)], 4))

    def test_nodes_that_both_sides_share(self):
        store = Diagrams()
        a, b, c = [store.there(entry) for entry in (1, 2, 3)]
        odd = store.differs(store.differs(a, b), c)
        self.assertEqual(store.table(odd), ([(3, 0, 1), (3, 1, 0), (2, 2, 3), (2, 3, 2), (1, 4, 5)], 6))
        most = store.disjunction(store.conjunction(a, b), store.conjunction(c, store.disjunction(a, b)))
        self.assertEqual(store.table(most), ([(3, 0, 1), (2, 0, 2), (2, 2, 1), (1, 3, 4)], 5))
        # What is needed by the side there is listed with the side without.
        one = store.disjunction(store.conjunction(store.negation(a), store.conjunction(b, c)), store.conjunction(a, c))
        self.assertEqual(store.table(one), ([(3, 0, 1), (2, 0, 2), (1, 3, 2)], 4))

    def test_the_example(self):
        store = Diagrams()
        made = store.conjunction(store.there(5), store.negation(store.there(2)))
        self.assertEqual(store.table(made), ([(5, 0, 1), (2, 2, 0)], 3))

    def test_a_table_is_new(self):
        store = Diagrams()
        made = store.conjunction(store.there(1), store.there(2))
        store.table(made)[0].clear()
        store.depends(made).clear()
        self.assertEqual((store.table(made), store.depends(made)), (([(2, 0, 1), (1, 0, 2)], 3), [1, 2]))

    def test_sizes(self):
        store = Diagrams()
        a, b, c = [store.there(entry) for entry in (1, 2, 3)]
        both = store.conjunction(b, c)
        all_three = store.conjunction(a, both)
        for conditions, expected in (
            ([], 0), ([0], 0), ([1], 0), ([0, 1, 0], 0), ([a], 1), ([a, a], 1), ([a, store.negation(a)], 2),
            ([both], 2), ([all_three], 3), ([all_three, both], 3), ([both, all_three, c, 1], 3), ([both, a], 3),
            ([all_three, b], 4), ([store.differs(store.differs(a, b), c)], 5),
        ):
            kept = list(conditions)
            self.assertEqual(store.size(conditions), expected)
            self.assertEqual(conditions, kept)

    def test_sizes_of_several(self):
        drawn = drawn_models(31, 90, FIVE)
        for at in range(0, 90, 3):
            store = Diagrams()
            some = [model for _, model in drawn[at:at + 3]]
            made = [models.condition(store, model, FIVE) for model in some]
            for number in range(4):
                self.assertEqual(store.size(made[:number]), models.size(some[:number], FIVE))


class Questions(unittest.TestCase):
    def test_restrict(self):
        for entries, model in drawn_models(32, 60):
            store, made = models.kept(model, entries)
            for entry, is_there in itertools.product(entries, (False, True)):
                known = store.restrict(made, entry, is_there)
                expected = models.restricted(model, entry, is_there)
                self.assertEqual(models.model_of(store, known, entries), expected)
                self.assertEqual(known, models.condition(store, expected, entries))
                self.assertNotIn(entry, store.depends(known))

    def test_restrict_by_an_input_row_on_which_it_does_not_depend(self):
        store = Diagrams()
        made = store.conjunction(store.there(5), store.negation(store.there(2)))
        for entry, is_there in itertools.product((0, 3, 9), (False, True)):
            for condition in (made, 0, 1):
                self.assertEqual(store.restrict(condition, entry, is_there), condition)

    def test_restrict_in_the_middle(self):
        store = Diagrams()
        a, b, c = [store.there(entry) for entry in (1, 2, 3)]
        made = store.disjunction(store.conjunction(a, b), store.conjunction(store.negation(b), c))
        self.assertEqual((store.restrict(made, 2, True), store.restrict(made, 2, False)), (a, c))

    def test_helps_and_hurts(self):
        for entries, model in drawn_models(33, 100):
            store, made = models.kept(model, entries)
            for entry in entries + [41]:
                others = [choice for choice in models.subsets(entries) if entry not in choice]
                pairs = [(choice in model, choice | {entry} in model) for choice in others]
                if entry == 41:
                    pairs = []
                self.assertIs(store.helps(made, entry), (False, True) in pairs)
                self.assertIs(store.hurts(made, entry), (True, False) in pairs)

    def test_what_helps_and_hurts(self):
        store = Diagrams()
        a, b = store.there(0), store.there(1)
        odd = store.differs(a, b)
        self.assertEqual([store.helps(odd, 0), store.hurts(odd, 0)], [True, True])
        both = store.conjunction(a, store.negation(b))
        self.assertEqual([store.helps(both, 0), store.hurts(both, 0)], [True, False])
        self.assertEqual([store.helps(both, 1), store.hurts(both, 1)], [False, True])
        for leaf in (0, 1):
            self.assertEqual([store.helps(leaf, 0), store.hurts(leaf, 0)], [False, False])

    def test_implies(self):
        drawn = drawn_models(34, 60, FIVE)
        store = Diagrams()
        for (_, first), (_, second) in itertools.product(drawn[:30], drawn[30:]):
            some = [first, second, first & second, first | second, models.never(), models.always(FIVE)]
            made = [models.condition(store, model, FIVE) for model in some]
            for (one, left), (other, right) in itertools.product(zip(some, made), repeat=2):
                self.assertIs(store.implies(left, right), one <= other)

    def test_ways(self):
        for entries, model in drawn_models(35, 80):
            store, made = models.kept(model, entries)
            needed = models.depends(model, entries)
            choices = models.subsets(needed)
            expected = len([choice for choice in choices if store.holds(made, sorted(choice))])
            self.assertEqual(store.ways(made, needed), expected)
            self.assertEqual(store.ways(made, entries), len(model))
            more = sorted(set(entries) | {3, 17, 50})
            self.assertEqual(store.ways(made, more), len(model) * 2 ** (len(more) - len(entries)))

    def test_ways_with_input_rows_on_which_it_does_not_depend(self):
        store = Diagrams()
        made = store.conjunction(store.there(4), store.negation(store.there(8)))
        for entries, expected in (([4, 8], 1), ([0, 4, 8], 2), ([4, 6, 8], 2), ([4, 8, 9], 2),
                                  ([0, 1, 4, 5, 6, 8, 11], 32)):
            kept = list(entries)
            self.assertEqual(store.ways(made, entries), expected)
            self.assertEqual(entries, kept)

    def test_ways_of_leaves(self):
        store = Diagrams()
        self.assertEqual([store.ways(0, []), store.ways(0, [1, 2]), store.ways(1, []), store.ways(1, [1, 2])],
                         [0, 0, 1, 4])

    def test_many_input_rows(self):
        store = Diagrams()
        entries = list(range(60))
        all_there, some_there, odd = 1, 0, 0
        for entry in reversed(entries):
            all_there = store.conjunction(all_there, store.there(entry))
            some_there = store.disjunction(some_there, store.there(entry))
            odd = store.differs(odd, store.there(entry))
        self.assertEqual([store.ways(made, entries) for made in (all_there, some_there, odd)],
                         [1, 2 ** 60 - 1, 2 ** 59])
        self.assertEqual([store.size([made]) for made in (all_there, some_there, odd)], [60, 60, 119])
        self.assertEqual([store.first_set(made) for made in (all_there, some_there, odd)], [entries, [59], [59]])


class FirstSets(unittest.TestCase):
    def test_never_and_always(self):
        store = Diagrams()
        self.assertIsNone(store.first_set(0))
        self.assertEqual(store.first_set(1), [])

    def test_against_all_choices(self):
        for entries, model in drawn_models(36, 120):
            store, made = models.kept(model, entries)
            expected = models.in_choice_order(model)[0] if model else None
            self.assertEqual(store.first_set(made), expected)

    def test_the_least_number_decides(self):
        store = Diagrams()
        many = store.conjunction(store.there(2), store.conjunction(store.there(3), store.there(4)))
        self.assertEqual(store.first_set(store.disjunction(store.there(1), many)), [2, 3, 4])
        self.assertEqual(store.first_set(store.negation(many)), [])


if __name__ == "__main__":
    unittest.main()

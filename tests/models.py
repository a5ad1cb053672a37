"""Conditions written out: a model is the frozenset of all choices, as frozensets, for which a condition holds."""

import functools
import itertools

from lineworks.diagrams import Diagrams


def subsets(entries):
    """Returns all subsets as frozensets, smaller ones first."""
    return [frozenset(part) for size in range(len(entries) + 1) for part in itertools.combinations(entries, size)]


def never():
    return frozenset()


def always(entries):
    return frozenset(subsets(entries))


def there(entry, entries):
    return frozenset(choice for choice in subsets(entries) if entry in choice)


def negation(model, entries):
    return always(entries) - model


def model_of(store, condition, entries):
    """Returns the model of a condition of a store, choice by choice."""
    return frozenset(choice for choice in subsets(entries) if store.holds(condition, sorted(choice)))


def drawn(random, entries, share=0.5):
    """Returns a model made at random."""
    return frozenset(choice for choice in subsets(entries) if random.random() < share)


def drawn_by_formula(random, entries, depth):
    """Returns a model that a formula with few operators has: its diagram is often small."""
    if depth == 0 or random.random() < 0.1:
        return there(random.choice(entries), entries)
    first = drawn_by_formula(random, entries, depth - 1)
    word = random.choice(["not", "and", "or", "differs"])
    if word == "not":
        return negation(first, entries)
    second = drawn_by_formula(random, entries, depth - 1)
    return {"and": first & second, "or": first | second, "differs": first ^ second}[word]


def condition_of_choice(store, choice, entries):
    """Returns the condition that just these input rows are there."""
    made = 1
    for entry in entries:
        asked = store.there(entry)
        made = store.conjunction(made, asked if entry in choice else store.negation(asked))
    return made


def condition(store, model, entries):
    """Returns the condition with a model: one of its choices is what is there."""
    made = 0
    for choice in sorted(model, key=sorted):
        made = store.disjunction(made, condition_of_choice(store, choice, entries))
    return made


def kept(model, entries):
    """Returns a store, and the condition in it that has a model."""
    store = Diagrams()
    return store, condition(store, model, entries)


def restricted(model, entry, is_there):
    """Returns the model of a condition once it is known about an input row."""
    agreeing = [choice for choice in model if (entry in choice) == is_there]
    return frozenset(made for choice in agreeing for made in (choice - {entry}, choice | {entry}))


def depends(model, entries):
    """Returns those input rows for which some choice of the others makes a difference."""
    return [entry for entry in entries if restricted(model, entry, True) != restricted(model, entry, False)]


@functools.lru_cache(maxsize=None)
def diagram(model, entries):
    """Returns 0, 1, or (entry, without, there) with the diagrams of both sides. entries is an ascending tuple."""
    if not entries:
        return 1 if model else 0
    first, rest = entries[0], entries[1:]
    without = diagram(frozenset(choice for choice in model if first not in choice), rest)
    with_it = diagram(frozenset(choice - {first} for choice in model if first in choice), rest)
    return without if without == with_it else (first, without, with_it)


@functools.lru_cache(maxsize=None)
def nodes(tree):
    """Returns the different nodes of a diagram as a frozenset."""
    if tree in (0, 1):
        return frozenset()
    return frozenset([tree]) | nodes(tree[1]) | nodes(tree[2])


def size(models, entries):
    """Returns the number of different nodes of the diagrams of models."""
    return len(frozenset().union(*[nodes(diagram(model, tuple(entries))) for model in models]))


def table(model, entries):
    """Returns the table of a model: the words of point 29 put into a list."""
    listed = []

    def number(tree):
        return tree if tree in (0, 1) else 2 + listed.index(tree)

    def write(tree):
        if tree in (0, 1) or tree in listed:
            return
        write(tree[1])
        write(tree[2])
        listed.append(tree)

    tree = diagram(model, tuple(entries))
    write(tree)
    return [(entry, number(without), number(with_it)) for entry, without, with_it in listed], number(tree)


def table_model(listed, root, entries):
    """Returns the model of the condition with a table."""
    def holds(choice):
        number = root
        while number > 1:
            entry, without, with_it = listed[number - 2]
            number = with_it if entry in choice else without
        return number == 1

    return frozenset(choice for choice in subsets(entries) if holds(choice))


def in_set_order(sets):
    """Returns sets in the order of point 32, as ascending lists."""
    def comes_before(one, other):
        if len(one) != len(other):
            return len(one) - len(other)
        different = set(one) ^ set(other)
        return 0 if not different else (-1 if min(different) in one else 1)

    return sorted([sorted(each) for each in sets], key=functools.cmp_to_key(comes_before))


def in_choice_order(choices):
    """Returns choices in the order of point 34, as ascending lists."""
    def comes_before(one, other):
        different = set(one) ^ set(other)
        return 0 if not different else (1 if min(different) in one else -1)

    return sorted([sorted(each) for each in choices], key=functools.cmp_to_key(comes_before))

"""Shares: how much each of the input rows that are there adds to a condition."""

from math import factorial

from lineworks.lowest import lowest_terms


def shares(store, condition, present):
    """Returns (entry, numerator, denominator) for each input row that counts, ascending."""
    entries = []
    left = condition
    for entry in store.depends(condition):
        if entry in present:
            entries.append(entry)
        else:
            left = store.restrict(left, entry, False)
    added = added_by_entries(store, left, entries)
    number = len(entries)
    return [(entry,) + lowest_terms(added[entry], factorial(number)) for entry in entries]


def added_by_entries(store, condition, entries):
    """Returns for each input row the sum of what it adds over all orders of the ascending list entries,
    which has all on which the condition depends."""
    nodes, root = store.table(condition)
    number = len(entries)
    places = {entry: at for at, entry in enumerate(entries)}
    starts = [number, number] + [places[entry] for entry, _, _ in nodes]
    holding = sets_below(nodes, starts)
    leading = sets_above(nodes, starts, root)
    # How many orders there are in which an input row comes behind just those of a set of some size.
    orders = [factorial(size) * factorial(number - 1 - size) for size in range(number)]
    added = {entry: 0 for entry in entries}
    for at, (entry, without, there) in enumerate(nodes):
        start = starts[at + 2] + 1
        with_it = spread(holding[there], starts[there] - start)
        without_it = spread(holding[without], starts[without] - start)
        gained = [one - other for one, other in zip(with_it, without_it)]
        for size, before in enumerate(leading[at + 2]):
            weights = [weight * orders[size + more] for more, weight in enumerate(gained)]
            added[entry] += before * sum(weights)
    return added


def sets_below(nodes, starts):
    """Returns for each diagram, by size, the number of sets for which it holds: sets of those input rows
    that stand from its own place on. starts has these places."""
    found = [[0], [1]]
    for at, (_, without, there) in enumerate(nodes):
        start = starts[at + 2] + 1
        missing = spread(found[without], starts[without] - start)
        grown = spread(found[there], starts[there] - start)
        found.append(sums(missing + [0], [0] + grown))
    return found


def sets_above(nodes, starts, root):
    """Returns for each diagram, by size, the number of sets that lead to it from the diagram root:
    sets of those input rows that stand before its own place."""
    found = [[0] * (start + 1) for start in starts]
    found[root] = spread([1], starts[root])
    for at in reversed(range(len(nodes))):
        _, without, there = nodes[at]
        start = starts[at + 2] + 1
        missing, grown = found[at + 2] + [0], [0] + found[at + 2]
        found[without] = sums(found[without], spread(missing, starts[without] - start))
        found[there] = sums(found[there], spread(grown, starts[there] - start))
    return found


def spread(counts, free):
    """Returns, by size, the numbers of sets to which any of some free input rows are added."""
    found = counts
    for _ in range(free):
        found = sums(found + [0], [0] + found)
    return found


def sums(first, second):
    """Returns the sums of the numbers at the same places of two lists of the same length."""
    return [one + other for one, other in zip(first, second)]

"""Chances: how probable conditions are, if each input row is there by chance."""

from lineworks.lowest import lowest_terms


def chance(store, condition, cases, *, of=1000):
    """Returns the chance of a condition as (numerator, denominator)."""
    nodes, root = store.table(condition)
    known = [(0, 1), (1, 1)]
    for entry, without, there in nodes:
        known.append(chance_of_node(known[without], known[there], cases[entry], of))
    return known[root]


def chances_given(store, condition, cases, entries, *, of=1000):
    """Returns (entry, numerator, denominator) for each input row given the condition,
    or None if the chance of the condition is 0."""
    part, whole = chance(store, condition, cases, of=of)
    if part == 0:
        return None
    found = []
    for entry in entries:
        both = store.conjunction(condition, store.there(entry))
        both_part, both_whole = chance(store, both, cases, of=of)
        found.append((entry,) + lowest_terms(both_part * whole, both_whole * part))
    return found


def chance_of_node(without, there, cases, of):
    """Returns the chance of a node, for those of its two diagrams and the cases of its input row."""
    part, whole = without
    there_part, there_whole = there
    numerator = (of - cases) * part * there_whole + cases * there_part * whole
    return lowest_terms(numerator, of * whole * there_whole)

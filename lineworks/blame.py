"""Blame: the input rows that decide what a condition is, perhaps after others have been turned."""

from lineworks.cheapest import cheapest


def blame(store, condition, present, allowed):
    """Returns (entry, others) for each input row that is to blame, ascending."""
    found = []
    for entry in store.depends(condition):
        if entry in allowed:
            # Each costs the same, so the cheapest change is the first set in the order of sets.
            costs = {other: 1 for other in allowed if other != entry}
            change = cheapest(store, deciding(store, condition, present, entry), present, costs)
            if change is not None:
                _, others = change
                found.append((entry, others))
    return found


def deciding(store, condition, present, entry):
    """Returns the condition that another one is what it is for the list present,
    and would not be so if this input row were turned."""
    kept = condition if store.holds(condition, present) else store.negation(condition)
    is_there = entry in present
    turned = store.restrict(kept, entry, not is_there)
    return store.conjunction(store.restrict(kept, entry, is_there), store.negation(turned))

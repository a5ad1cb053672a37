"""Least changes: the least sets of input rows to turn after which a condition holds."""

from lineworks.errors import TooManyChanges
from lineworks.sets import has_part, members, set_key


def changes(store, condition, present, allowed, *, most=200):
    """Returns the least changes out of the list allowed, in order."""
    nodes, root = store.table(condition)
    entries = store.depends(condition)
    bits = {entry: 1 << at for at, entry in enumerate(entries)}
    # The masks of the least changes for each diagram: none for never, the empty one for always.
    least = [[], [0]]
    for entry, without, there in nodes:
        now, other = (there, without) if entry in present else (without, there)
        turned = [bits[entry] | mask for mask in least[other]] if entry in allowed else []
        least.append(least_of_node(least[now], turned, most))
    return sorted([members(mask, entries) for mask in least[root]], key=set_key)


def least_of_node(now, turned, most):
    """Returns the least changes for a node, for those without its input row and those with it."""
    # None of those with it is a part of another one, or of one without it.
    found = now + [mask for mask in turned if not has_part(mask, now)]
    if len(found) > most:
        raise TooManyChanges("there are more least changes than there may be")
    return found

"""Reasons: the least sets of input rows that force what a condition is."""

from lineworks.errors import TooManyReasons
from lineworks.sets import least_masks, members, set_key


def reasons(store, condition, present, *, most=200):
    """Returns the reasons for what a condition is for the set of input rows in a list, in order."""
    forced = condition if store.holds(condition, present) else store.negation(condition)
    nodes, root = store.table(forced)
    entries = store.depends(forced)
    bits = {entry: 1 << at for at, entry in enumerate(entries)}
    # The masks of the least sets that force each diagram: none for never, the empty set for always.
    forcing = [[], [0]]
    for entry, without, there in nodes:
        now, other = (there, without) if entry in present else (without, there)
        forcing.append(forcing_node(bits[entry], forcing[now], forcing[other], most))
    return sorted([members(mask, entries) for mask in forcing[root]], key=set_key)


def forcing_node(bit, now, other, most):
    """Returns the least sets that force a node, for those that force the diagram
    to which the choice leads and those that force the other one."""
    # Without the input row of the node itself, a set has to force both diagrams.
    both = least_masks([first | second for first in now for second in other], most)
    enough = {mask: True for mask in both}
    found = both + [bit | mask for mask in now if mask not in enough]
    if len(found) > most:
        raise TooManyReasons("there are more reasons than there may be")
    return found

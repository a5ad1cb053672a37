"""Outcomes: the rows that begin alike, and the cheapest changes after which they come out, or none of them."""

from lineworks.cheapest import cheapest
from lineworks.limits import Way


def outcomes(store, candidates, prefix, present, costs):
    """Returns the outcomes for a prefix as a list of (row, cost, turned)."""
    found = []
    for row, condition in beginning(candidates, prefix):
        change = cheapest(store, condition, present, costs)
        if change is not None:
            cost, turned = change
            found.append((row, cost, turned))
    return found


def none_of(store, candidates, prefix, present, costs, *, most_nodes=500):
    """Returns the cheapest change after which no candidate with a prefix comes out, or None."""
    # No list is met here.
    way = Way(store, 0, most_nodes)
    joined = way.joined([condition for _, condition in beginning(candidates, prefix)])
    return cheapest(store, store.negation(joined), present, costs)


def beginning(candidates, prefix):
    """Returns the candidates that begin with a prefix."""
    return [(row, condition) for row, condition in candidates if row[:len(prefix)] == prefix]

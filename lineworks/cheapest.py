"""The cheapest change after which a condition holds."""


def cheapest(store, condition, present, costs):
    """Returns the cheapest change as (cost, turned), turned an ascending list, or None."""
    nodes, root = store.table(condition)
    # The best change for each diagram as (cost, number, turned): the first one in this order.
    best = [None, (0, 0, [])]
    for entry, without, there in nodes:
        now, other = (there, without) if entry in present else (without, there)
        options = [best[now], with_turned(entry, costs.get(entry), best[other])]
        best.append(min([option for option in options if option is not None], default=None))
    if best[root] is None:
        return None
    cost, _, turned = best[root]
    return cost, turned


def with_turned(entry, cost, change):
    """Returns a change in which an input row before all others of it is turned, too, or None."""
    if cost is None or change is None:
        return None
    rest, number, turned = change
    return cost + rest, number + 1, [entry] + turned

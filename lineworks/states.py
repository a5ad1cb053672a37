"""The values that a total can have, and the conditions under which it has them."""

from lineworks.diagrams import ALWAYS
from lineworks.limits import Gathering
from lineworks.values import bounded, evaluate, value_key


def total_values(way, form, rows):
    """Returns the values that a total of candidates can have as a list of (value, condition)."""
    word = form[0]
    members = total_members(way, form, rows)
    states = [(0 if word in ("count", "distinct") else None, ALWAYS)]
    for value, condition in reversed(members):
        states = next_states(way, word, states, value, condition)
    values = Gathering(way)
    for state, condition in reversed(states):
        values.put(told_value(word, state), condition)
    return values.listed()


def total_members(way, form, rows):
    """Returns what a total goes over as a list of (value, condition)."""
    word = form[0]
    if word == "count":
        # Whatever a row is, it counts.
        return [(None, condition) for _, condition in rows]
    valued = [(evaluate(form[1], row), condition) for row, condition in rows]
    if word == "distinct":
        return distinct_values(way, valued)
    return valued


def distinct_values(way, valued):
    """Returns the different values with their joined conditions, None left out."""
    groups = {}
    for value, condition in valued:
        if value is not None:
            groups.setdefault(value, []).append(condition)
    return [(value, way.joined(conditions)) for value, conditions in groups.items()]


def next_states(way, word, states, value, condition):
    """Returns the states that there are with one more member in front."""
    found = Gathering(way)
    for state, reached in reversed(states):
        found.put(state, way.store.conjunction(reached, way.store.negation(condition)))
        found.put(grown(word, state, value), way.store.conjunction(reached, condition))
    return found.listed()


def grown(word, state, value):
    """Returns what a state becomes with a member that has this value."""
    if word in ("count", "distinct"):
        return state + 1
    if word == "sum":
        return grown_sum(state, value)
    if state is None or value is None:
        return value if state is None else state
    if word == "least":
        return min(state, value, key=value_key)
    return max(state, value, key=value_key)


def grown_sum(state, value):
    """Returns a sum with one more value. The exact sum goes on beyond the bound, and may come back."""
    if not isinstance(value, int):
        return state
    return value if state is None else state + value


def told_value(word, state):
    """Returns the value that a state tells."""
    if word == "sum" and state is not None:
        return bounded(state)
    return state

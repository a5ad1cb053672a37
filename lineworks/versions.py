"""Versions held against each other."""

from lineworks.carrying import condition_of
from lineworks.kept import marks_of


def compare(old, new):
    """Returns (lost, gained, changed) for each index at which one of both versions has a step."""
    number = max(len(old.marks), len(new.marks))
    return [compare_marks(marks_of(old, step), marks_of(new, step)) for step in range(number)]


def are_equal(old, new):
    """Returns whether no row is lost, gained or changed."""
    return not [told for told in compare(old, new) if told != ([], [], [])]


def since(versions, step, row):
    """Returns the least index from which on a row has had the condition that it has in the last version."""
    last = condition_in(versions[-1], step, row)
    at = len(versions) - 1
    while at > 0 and condition_in(versions[at - 1], step, row) == last:
        at -= 1
    return at


def separate(store, old, new, step, row):
    """Returns the first choice for which a row comes out in just one of both versions, or None."""
    return store.first_set(store.differs(condition_in(old, step, row), condition_in(new, step, row)))


def condition_in(version, step, row):
    """Returns the condition of a row of a step in a version."""
    return condition_of(marks_of(version, step), row)


def compare_marks(old, new):
    """Returns (lost, gained, changed) for the candidates of a step."""
    before = {row: condition for row, condition in old}
    after = {row: condition for row, condition in new}
    lost = [row for row, _ in old if row not in after]
    gained = [row for row, _ in new if row not in before]
    changed = [row for row, condition in new if row in before and before[row] != condition]
    return lost, gained, changed

"""Versions of a pipeline: what is kept of the candidates when plans and input rows are edited."""

from lineworks.carrying import candidates, entry_candidates, pipeline_candidates
from lineworks.pipelines import copied_plan
from lineworks.queries import is_leaf


class Version:
    """Plans, input rows, the number of the next one, the candidates of all steps,
    and the indexes of the steps that were run for them."""

    def __init__(self, plans, entries, next_entry, marks, ran):
        # Copies, because versions that come from one another have parts in common.
        self.plans = [copied_plan(plan) for plan in plans]
        self.entries = list(entries)
        self.next_entry = next_entry
        self.marks = [list(found) for found in marks]
        self.ran = list(ran)


def open_version(store, plans, widths, *, most_rows=500, most_nodes=500):
    """Returns the first version. widths has the number of columns of each table."""
    marks = pipeline_candidates(store, plans, [], len(widths), most_rows=most_rows, most_nodes=most_nodes)
    return Version(plans, [], 0, marks, list(range(len(plans))))


def edit_version(store, version, edit, widths, *, most_rows=500, most_nodes=500):
    """Returns the version after an edit."""
    change = EDITS[edit[0]]
    plans, entries, next_entry = change(version, edit)
    tables = candidates_of_tables(store, entries, widths)
    others = candidates_of_tables(store, version.entries, widths)
    # The tables and steps that have other candidates now, as operations.
    different = {("table", at): True for at, found in enumerate(tables) if found != others[at]}
    marks = []
    ran = []
    for at, plan in enumerate(plans):
        if at == edited_step(version, edit) or names_any(plan, different):
            marks.append(candidates(store, plan, tables, marks, most_rows=most_rows, most_nodes=most_nodes))
            ran.append(at)
            if marks[at] != marks_of(version, at):
                different["step", at] = True
        else:
            marks.append(marks_of(version, at))
    return Version(plans, entries, next_entry, marks, ran)


def marks_of(version, step):
    """Returns the candidates of a step in a version. There are none if it has no step with this index."""
    return version.marks[step] if step < len(version.marks) else []


def candidates_of_tables(store, entries, widths):
    return [entry_candidates(store, entries, table) for table in range(len(widths))]


def edited_step(version, edit):
    """Returns the index of the step that an edit defines or adds, or None."""
    if edit[0] == "define":
        return edit[1]
    return len(version.plans) if edit[0] == "append" else None


def names_any(plan, different):
    """Returns whether a plan uses one of some tables and steps."""
    return len([operation for operation in plan if is_leaf(operation) and operation in different]) > 0


def with_added(version, edit):
    _, table, row = edit
    number = version.next_entry
    return version.plans, version.entries + [(number, table, row)], number + 1


def with_removed(version, edit):
    _, number = edit
    left = [entry for entry in version.entries if entry[0] != number]
    return version.plans, left, version.next_entry


def with_changed(version, edit):
    _, number, row = edit
    entries = [(other, table, row if other == number else old) for other, table, old in version.entries]
    return version.plans, entries, version.next_entry


def with_defined(version, edit):
    _, step, plan = edit
    plans = version.plans[:step] + [plan] + version.plans[step + 1:]
    return plans, version.entries, version.next_entry


def with_appended(version, edit):
    _, plan = edit
    return version.plans + [plan], version.entries, version.next_entry


def with_dropped(version, edit):
    """The edit says nothing more than that it drops the last step."""
    return version.plans[:-1], version.entries, version.next_entry


EDITS = {
    "add": with_added,
    "remove": with_removed,
    "change": with_changed,
    "define": with_defined,
    "append": with_appended,
    "drop": with_dropped,
}

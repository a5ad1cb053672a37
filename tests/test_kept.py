"""Points 50 and 51: versions and edits."""

import copy
import random
import unittest

import plans

from lineworks.carrying import entry_candidates, pipeline_candidates
from lineworks.diagrams import Diagrams
from lineworks.errors import TooManyQuestions, TooManyRows
from lineworks.kept import Version, edit_version, open_version
from lineworks.pipelines import compile_source

A = ("column", 0)
YES, NO = ("constant", 1), ("constant", 0)
T, U = ("table", 0), ("table", 1)


def fields(version):
    return copy.deepcopy((version.plans, version.entries, version.next_entry, version.marks, version.ran))


def runs_again(store, old, new, edited, step, widths):
    """Returns whether a step has to be run again: a reading of point 51 that looks at the marks of both versions."""
    if step == edited:
        return True
    for word, index in [operation for operation in new.plans[step] if operation[0] in ("table", "step")]:
        if word == "table":
            before, after = [entry_candidates(store, each.entries, index) for each in (old, new)]
        else:
            before, after = old.marks[index], new.marks[index]
        if before != after:
            return True
    return False


class VersionFields(unittest.TestCase):
    def test_fields(self):
        version = Version([[T]], [(3, 0, (1,))], 4, [[((1,), 2)]], [0])
        self.assertEqual(fields(version), ([[T]], [(3, 0, (1,))], 4, [[((1,), 2)]], [0]))

    def test_nothing_of_the_arguments_is_kept(self):
        given = [[T, ("map", [A], 0)]], [(3, 0, (1,))], 4, [[((1,), 2)]], [0]
        version = Version(*given)
        expected = copy.deepcopy(given)
        for part in (given[0][0][1][1], given[0][0], given[0], given[1], given[3][0], given[3], given[4]):
            part.clear()
        self.assertEqual(fields(version), expected)


class Open(unittest.TestCase):
    def test_the_first_version(self):
        store = Diagrams()
        made = [[T], [("step", 0), U, ("union", 0, 1)], [T, ("group", [], [("count",), ("sum", A)], 0)]]
        version = open_version(store, made, [1, 1])
        self.assertEqual(fields(version), (made, [], 0, [[], [], [((0, None), 1)]], [0, 1, 2]))
        self.assertEqual(fields(open_version(store, [], [])), ([], [], 0, [], []))
        self.assertEqual(fields(open_version(store, [], [3, 1])), ([], [], 0, [], []))

    def test_limits(self):
        store = Diagrams()
        made = [[T, ("group", [], [("count",)], 0)]]
        self.assertEqual(open_version(store, made, [1], most_rows=1).marks, [[((0,), 1)]])
        self.assertRaises(TooManyRows, open_version, store, made, [1], most_rows=0)
        self.assertEqual(open_version(store, made, [1], most_nodes=0).marks, [[((0,), 1)]])


class Edits(unittest.TestCase):
    def setUp(self):
        self.store = Diagrams()
        self.a, self.b, self.c = [self.store.there(number) for number in range(3)]
        self.version = open_version(self.store, [[T], [U], [("step", 0), ("step", 1), ("union", 0, 1)]], [1, 1])

    def edit(self, *edit):
        """Makes an edit. The elder version and the edit stay as they are."""
        old, given = self.version, copy.deepcopy(edit)
        kept = fields(old)
        self.version = edit_version(self.store, old, edit, [1, 1])
        self.assertEqual((fields(old), edit), (kept, given))
        return self.version

    def test_add(self):
        version = self.edit("add", 0, (5,))
        self.assertEqual((version.entries, version.next_entry, version.ran), ([(0, 0, (5,))], 1, [0, 2]))
        self.assertEqual(version.marks, [[((5,), self.a)], [], [((5,), self.a)]])
        version = self.edit("add", 1, (5,))
        self.assertEqual((version.entries, version.next_entry, version.ran), ([(0, 0, (5,)), (1, 1, (5,))], 2, [1, 2]))
        either = self.store.disjunction(self.a, self.b)
        self.assertEqual(version.marks, [[((5,), self.a)], [((5,), self.b)], [((5,), either)]])

    def test_remove(self):
        for row in ((5,), (6,), (7,)):
            self.edit("add", 0, row)
        version = self.edit("remove", 1)
        self.assertEqual((version.entries, version.next_entry, version.ran), ([(0, 0, (5,)), (2, 0, (7,))], 3, [0, 2]))
        self.assertEqual(version.marks[0], [((5,), self.a), ((7,), self.c)])
        version = self.edit("remove", 2)
        # Numbers never come back.
        self.assertEqual(version.next_entry, 3)
        self.assertEqual(self.edit("add", 1, (5,)).entries, [(0, 0, (5,)), (3, 1, (5,))])
        self.edit("remove", 0)
        self.edit("remove", 3)
        self.assertEqual((self.version.entries, self.version.next_entry), ([], 4))

    def test_change(self):
        for table, row in ((0, (5,)), (1, (6,)), (0, (7,))):
            self.edit("add", table, row)
        version = self.edit("change", 0, (9,))
        self.assertEqual((version.entries, version.next_entry), ([(0, 0, (9,)), (1, 1, (6,)), (2, 0, (7,))], 3))
        self.assertEqual((version.marks[0], version.ran), ([((7,), self.c), ((9,), self.a)], [0, 2]))
        version = self.edit("change", 1, (9,))
        self.assertEqual((version.entries[1], version.ran), ((1, 1, (9,)), [1, 2]))

    def test_define(self):
        self.edit("add", 0, (5,))
        self.edit("add", 1, (6,))
        version = self.edit("define", 0, [U, ("filter", YES, 0)])
        self.assertEqual((version.plans[0], version.ran), ([U, ("filter", YES, 0)], [0, 2]))
        self.assertEqual(version.marks, [[((6,), self.b)], [((6,), self.b)], [((6,), self.b)]])
        self.assertEqual((version.entries, version.next_entry), ([(0, 0, (5,)), (1, 1, (6,))], 2))
        # It is run, but it has the same candidates. So the last step is not run.
        self.assertEqual(self.edit("define", 0, [U]).ran, [0])
        self.assertEqual(self.edit("define", 0, [U]).ran, [0])
        self.assertEqual(self.edit("define", 2, [U]).ran, [2])

    def test_append_and_drop(self):
        self.edit("add", 0, (5,))
        version = self.edit("append", [("step", 2), T, ("minus", 0, 1)])
        self.assertEqual((len(version.plans), version.marks[3], version.ran), (4, [], [3]))
        self.assertEqual(self.edit("append", [("step", 0)]).marks[4], [((5,), self.a)])
        self.assertEqual((self.version.ran, len(self.version.plans)), ([4], 5))
        version = self.edit("drop")
        self.assertEqual((len(version.plans), len(version.marks), version.ran), (4, 4, []))
        for _ in range(4):
            version = self.edit("drop")
            self.assertEqual(version.ran, [])
        self.assertEqual(fields(version), ([], [(0, 0, (5,))], 1, [], []))
        self.assertEqual(self.edit("append", [T]).marks, [[((5,), self.a)]])

    def test_versions_have_nothing_in_common(self):
        self.edit("append", [T, ("map", [A], 0)])
        for edit in (("add", 1, (5,)), ("define", 1, [T]), ("drop",), ("append", [T])):
            old = self.version
            kept = fields(old)
            new = edit_version(self.store, old, edit, [1, 1])
            for part in new.plans + new.marks + [new.plans, new.entries, new.marks, new.ran]:
                part.clear()
            self.assertEqual(fields(old), kept)


class Ran(unittest.TestCase):
    """Which steps are run again."""

    def setUp(self):
        self.store = Diagrams()

    def after(self, made, edits, widths=(1, 1)):
        version = open_version(self.store, made, list(widths))
        for edit in edits:
            version = edit_version(self.store, version, edit, list(widths))
        return version

    def test_other_rows(self):
        made = [[T], [U], [("step", 0)], [("step", 1)], [U, T, ("union", 0, 1)]]
        self.assertEqual(self.after(made, [("add", 0, (1,))]).ran, [0, 2, 4])
        self.assertEqual(self.after(made, [("add", 0, (1,)), ("add", 1, (1,))]).ran, [1, 3, 4])
        self.assertEqual(self.after(made, [("add", 0, (1,)), ("remove", 0)]).ran, [0, 2, 4])
        self.assertEqual(self.after(made, [("add", 1, (1,)), ("change", 0, (2,))]).ran, [1, 3, 4])

    def test_the_same_rows_under_another_condition(self):
        made = [[T], [("step", 0)]]
        self.assertEqual(self.after(made, [("add", 0, (1,)), ("add", 0, (1,))]).ran, [0, 1])
        self.assertEqual(self.after(made, [("add", 0, (1,)), ("add", 0, (1,)), ("remove", 0)]).ran, [0, 1])

    def test_the_same_candidates(self):
        made = [[T], [("step", 0)]]
        # The row is what it was.
        self.assertEqual(self.after(made, [("add", 0, (1,)), ("change", 0, (1,))]).ran, [])
        # Two input rows of one table change places: the rows are the same, but not their conditions.
        edits = [("add", 0, (1,)), ("add", 0, (2,)), ("change", 0, (2,))]
        self.assertEqual(self.after(made, edits).ran, [0, 1])

    def test_over_a_step_that_was_run_with_the_same_candidates(self):
        made = [[T, ("filter", ("less", A, ("constant", 5)), 0)], [("step", 0)], [("step", 1)]]
        self.assertEqual(self.after(made, [("add", 0, (1,)), ("add", 0, (7,))]).ran, [0])
        self.assertEqual(self.after(made, [("add", 0, (7,)), ("add", 0, (1,))]).ran, [0, 1, 2])

    def test_an_operation_that_the_last_one_does_not_name_is_used(self):
        made = [[U, T], [("step", 0), T]]
        self.assertEqual(self.after(made, [("add", 1, (1,))]).ran, [0])
        self.assertEqual(self.after(made, [("add", 0, (1,))]).ran, [0, 1])

    def test_limits_are_met_only_for_steps_that_are_run(self):
        made = [[T, ("group", [], [("count",)], 0)], [U, ("map", [A], 0)]]
        version = self.after(made, [("add", 0, (number,)) for number in range(3)])
        self.assertEqual(len(version.marks[0]), 4)
        for limits in ({"most_rows": 1}, {"most_nodes": 1}):
            found = edit_version(self.store, version, ("add", 1, (1,)), [1, 1], **limits)
            self.assertEqual((found.ran, found.marks[0]), ([1], version.marks[0]))
            kept = fields(version)
            error = TooManyRows if "most_rows" in limits else TooManyQuestions
            for edit in (("add", 0, (9,)), ("define", 0, made[0]), ("append", made[0]), ("remove", 1)):
                self.assertRaises(error, edit_version, self.store, version, edit, [1, 1], **limits)
                self.assertEqual(fields(version), kept)
        self.assertEqual(edit_version(self.store, version, ("drop",), [1, 1], most_rows=0, most_nodes=0).ran, [])

    def test_the_limits_that_are_not_given(self):
        made = [[T, ("map", [A], 0)]]
        entries = [(number, 0, (number,)) for number in range(500)]
        store = Diagrams()
        version = Version(made, entries, 500, pipeline_candidates(store, made, entries, 1), [0])
        self.assertRaises(TooManyRows, edit_version, store, version, ("add", 0, (900,)), [1])
        found = edit_version(store, version, ("change", 7, (900,)), [1])
        self.assertEqual(len(found.marks[0]), 500)
        entries = [(number, 0, (1,)) for number in range(500)]
        made = [[T, ("map", [NO], 0)]]
        version = Version(made, entries, 500, pipeline_candidates(store, made, entries, 1), [0])
        self.assertRaises(TooManyQuestions, edit_version, store, version, ("add", 0, (1,)), [1])

    def test_edits_made_at_random(self):
        source = random.Random(51)
        counts = {}
        for _ in range(120):
            store, widths = Diagrams(), [1, 2]
            made, steps = [], []
            for _ in range(source.randint(0, 4)):
                plan, width = plans.plan(source, widths, steps, 3)
                made.append(plan)
                steps.append(width)
            version = open_version(store, made, widths)
            for _ in range(8):
                edit, edited = self.drawn_edit(source, version, widths, steps)
                kept = fields(version)
                new = edit_version(store, version, edit, widths)
                self.assertEqual(fields(version), kept)
                counts[edit[0]] = counts.get(edit[0], 0) + 1
                # All candidates are those that all steps would have if all were run.
                self.assertEqual(new.marks, pipeline_candidates(store, new.plans, new.entries, 2))
                self.assertEqual(new.ran, [at for at in range(len(new.plans))
                                           if runs_again(store, version, new, edited, at, widths)])
                counts["kept"] = counts.get("kept", 0) + len(new.plans) - len(new.ran)
                version = new
        self.assertGreater(min(counts.values()), 30)
        self.assertEqual(len(counts), 7)

    def drawn_edit(self, source, version, widths, steps):
        """Returns an edit, and the index of the step that it defines or adds, or None. Keeps the widths of steps."""
        word = source.choice(["add", "add", "add", "remove", "change", "define", "append", "drop"])
        numbers = [number for number, _, _ in version.entries]
        if word in ("remove", "change") and numbers:
            number, table, _ = source.choice(version.entries)
            return (word, number) + ((plans.row(source, widths[table]),) if word == "change" else ()), None
        if word == "define" and steps:
            at = source.randrange(len(steps))
            # Later steps rest on its number of columns.
            for _ in range(30):
                plan, width = plans.plan(source, widths, steps[:at], 3)
                if width == steps[at]:
                    return ("define", at, plan), at
        if word == "append" and len(steps) < 6:
            plan, width = plans.plan(source, widths, steps, 3)
            steps.append(width)
            return ("append", plan), len(steps) - 1
        if word == "drop" and steps:
            steps.pop()
            return ("drop",), None
        if len(numbers) >= 5:
            return ("remove", source.choice(numbers)), None
        table = source.randrange(2)
        return ("add", table, plans.row(source, widths[table])), None


class Queries(unittest.TestCase):
    def test_a_pipeline(self):
        pipeline = compile_source("""
            table t (a int); table u (a int); step s = from t anti join u on t.a = u.a;
            step r = from s where a > 3; step q = from r group with count as n;
        """)
        store = Diagrams()
        version = open_version(store, pipeline.plans, [1, 1])
        ran = [version.ran]
        for edit in (("add", 0, (1,)), ("add", 0, (4,)), ("add", 1, (4,)), ("change", 2, (8,)), ("remove", 0)):
            version = edit_version(store, version, edit, [1, 1])
            ran.append(version.ran)
        # The second input row of u has nothing to do with rows below 4.
        self.assertEqual(ran, [[0, 1, 2], [0, 1], [0, 1, 2], [0, 1, 2], [0, 1, 2], [0, 1]])


if __name__ == "__main__":
    unittest.main()

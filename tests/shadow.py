"""A line written out: for each version all choices of input rows are gone through. It knows nothing of limits."""

import copy

import models
from plans import ordered

from lineworks.pipelines import compile_source
from lineworks.queries import step_rows


def plain(row):
    return tuple(int(value) if isinstance(value, bool) else value for value in row)


def shown(row, columns):
    return tuple(bool(value) if kind == "truth" and value is not None else value
                 for value, (_, kind) in zip(row, columns))


def evaluate(tree, choice):
    """Returns whether a diagram holds for a choice."""
    while tree not in (0, 1):
        entry, without, there = tree
        tree = there if entry in choice else without
    return tree == 1


class Shadow:
    """Is told the operations of a line, and tells what it then has to be."""

    def __init__(self, tables, steps):
        self.tables = tables
        self.steps = list(steps)
        self.entries = []
        self.following = 0
        self.there = {}
        self.versions = []
        self.history = []
        self.run()

    # What it is now.

    def pipeline(self):
        return self.versions[-1][0]

    def source(self):
        return self.tables + "".join(f" step {name} = {text};" for name, text in self.steps)

    def numbers(self):
        return tuple(number for number, _, _ in self.entries)

    def present(self):
        return [number for number in self.numbers() if self.there[number]]

    def model(self, step, row):
        """Returns the model of the condition of a row inside."""
        return frozenset(choice for choice in models.subsets(self.numbers())
                         if evaluate(self.diagram(-1, step, row), choice))

    def diagram(self, version, step, row):
        trees = self.versions[version][1]
        return trees[step].get(row, 0) if step < len(trees) else 0

    def candidates(self, step):
        return ordered(self.versions[-1][1][step])

    # Operations.

    def run(self, edited=None):
        """Makes a version. edited is the index of a step that an edit defines or adds."""
        pipeline = compile_source(self.source())
        entries = [(number, pipeline.table_index(table), row) for number, table, row in self.entries]
        found = [{} for _ in pipeline.plans]
        for choice in models.subsets(self.numbers()):
            for step, rows in enumerate(step_rows(pipeline.plans, entries, sorted(choice))):
                for row in rows:
                    found[step].setdefault(row, set()).add(choice)
        trees = [{row: models.diagram(frozenset(choices), self.numbers()) for row, choices in step.items()}
                 for step in found]
        tables = [{} for _ in pipeline.tables]
        for number, table, row in entries:
            tables[table].setdefault(row, set()).add(number)
        ran = list(range(len(trees)))
        if self.versions:
            _, old_trees, old_tables, _ = self.versions[-1]
            changed = {("table", at) for at, each in enumerate(tables) if each != old_tables[at]}
            changed |= {("step", at) for at, each in enumerate(trees) if at < len(old_trees) and each != old_trees[at]}
            ran = [at for at, plan in enumerate(pipeline.plans)
                   if at == edited or any(operation[:2] in changed for operation in plan
                                          if operation[0] in ("table", "step"))]
        self.versions = self.versions + [(pipeline, trees, tables, ran)]

    def keep(self):
        self.history.append((self.steps, self.entries, self.following, self.there, self.versions))
        self.steps, self.entries, self.there = copy.deepcopy((self.steps, self.entries, self.there))

    def add(self, table, row):
        self.keep()
        self.entries.append((self.following, table, plain(row)))
        self.there[self.following] = True
        self.following += 1
        self.run()
        return self.following - 1

    def remove(self, entry):
        self.keep()
        self.entries = [each for each in self.entries if each[0] != entry]
        self.there.pop(entry)
        self.run()

    def change(self, entry, row):
        self.keep()
        self.entries = [(number, table, plain(row) if number == entry else old) for number, table, old in self.entries]
        self.run()

    def put(self, entry, there):
        self.keep()
        self.there[entry] = there

    def define(self, step, text):
        self.keep()
        names = [name for name, _ in self.steps]
        self.steps[names.index(step)] = (step, text)
        self.run(names.index(step))

    def add_step(self, name, text):
        self.keep()
        self.steps.append((name, text))
        self.run(len(self.steps) - 1)

    def drop(self):
        self.keep()
        self.steps.pop()
        self.run()

    def back(self):
        if not self.history:
            return False
        self.steps, self.entries, self.following, self.there, self.versions = self.history.pop()
        return True

    # What the line tells of it.

    def overview(self):
        """Returns the answers that need no row."""
        pipeline, trees, _, ran = self.versions[-1]
        rows = {}
        for at, (name, columns) in enumerate(pipeline.steps):
            some = self.candidates(at)
            rows[name] = (
                [shown(row, columns) for row in some if evaluate(trees[at][row], frozenset(self.present()))],
                [shown(row, columns) for row in some],
                [shown(row, columns) for row in some if trees[at][row] == 1],
                len(frozenset().union(*[models.nodes(trees[at][row]) for row in some])),
            )
        entries = []
        for number, table, row in self.entries:
            columns = dict(pipeline.tables)[table]
            entries.append((number, table, shown(row, columns), self.there[number]))
        return (pipeline.tables, pipeline.steps, entries, rows, [pipeline.steps[at][0] for at in ran],
                len(self.versions) - 1)

    def compare(self, version):
        (then, old, _, _), (now, new, _, _) = self.versions[version], self.versions[-1]
        told = []
        for at in range(max(len(old), len(new))):
            before, after = [trees[at] if at < len(trees) else {} for trees in (old, new)]
            name = now.steps[at][0] if at < len(new) else then.steps[at][0]
            lost = [shown(row, then.steps[at][1]) for row in ordered(set(before) - set(after))]
            gained = [shown(row, now.steps[at][1]) for row in ordered(set(after) - set(before))]
            changed = [shown(row, now.steps[at][1]) for row in ordered(set(after) & set(before))
                       if before[row] != after[row]]
            told.append((name, lost, gained, changed))
        return told

    def since(self, step, row):
        trees = [self.diagram(at, step, row) for at in range(len(self.versions))]
        return min(at for at in range(len(trees)) if set(trees[at:]) == {trees[-1]})

    def separate(self, version, step, row):
        old, new = self.diagram(version, step, row), self.diagram(-1, step, row)
        asked = sorted({node[0] for tree in (old, new) for node in models.nodes(tree)})
        apart = [choice for choice in models.subsets(asked) if evaluate(old, choice) != evaluate(new, choice)]
        return models.in_choice_order(apart)[0] if apart else None

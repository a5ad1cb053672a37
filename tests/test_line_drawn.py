"""Points 52 to 55 and 57, over lines made at random: each answer is held against a line that is written out."""

import random
import unittest

import models
from shadow import Shadow, plain, shown

from lineworks.blame import blame
from lineworks.cases import cases
from lineworks.chances import chance, chances_given
from lineworks.changes import changes
from lineworks.cheapest import cheapest
from lineworks.deciding import deciding_rows
from lineworks.line import Line
from lineworks.origins import falling, origins, uses
from lineworks.queries import step_rows
from lineworks.reasons import reasons
from lineworks.shares import shares

TABLES = "table t (a int, b truth); table u (a int, c text);"
# Queries with the columns a int and b truth. {s} is a step before, or the table t.
QUERIES = [
    "from t", "from t where a > 1", "from t where b or missing(b)", "from {s} union from t", "from {s} except from t where b",
    "from u select a, c = 'x' as b", "from t anti join u on t.a = u.a", "from {s} as x semi join t on x.a = t.a",
    "from t left join u on t.a < u.a select t.a, missing(u.a) as b", "from {s} group b with count as n select n as a, b",
    "from t group with count as a, min(b) as b", "from {s} intersect from t", "from {s} where not b",
    "from u group a with max(c) as m select a, m = 'x' as b", "from {s} as x join {s} as y on x.a < y.a select x.a, y.b",
    "from {s} group b with sum(a) as a select a, b", "from {s} group a, b", "from u group with distinct(c) as a select a, a > 1 as b",
]
# Queries with other columns.
OTHERS = ["from {s} select b", "from {s} select a", "from u", "from {s} select b as x, a", "from u select c"]


def row_of(source, columns):
    values = {"int": [0, 1, 2, None], "text": ["x", "y", None], "truth": [True, False, None]}
    return tuple(source.choice(values[kind]) for _, kind in columns)


class Drawn(unittest.TestCase):
    def steps_at(self, shadow):
        return [name for name, columns in shadow.pipeline().steps if columns == [("a", "int"), ("b", "truth")]]

    def query(self, source, shadow, before, pool):
        fitting = [name for name in before if name in self.steps_at(shadow)]
        return source.choice(pool).replace("{s}", source.choice(fitting + ["t"]))

    def operate(self, source, line, shadow):
        """Makes an operation in both."""
        names = [name for name, _ in shadow.steps]
        word = source.choice(["add"] * 4 + ["remove", "change", "put", "define", "add_step", "drop", "back", "back"])
        if word == "add" and len(shadow.entries) >= 5 or word in ("remove", "change", "put") and not shadow.entries:
            word = "back"
        if word == "define" and not self.steps_at(shadow) or word == "drop" and len(names) < 2:
            word = "add_step"
        if word == "add":
            table, columns = source.choice(shadow.pipeline().tables)
            row = row_of(source, columns)
            self.assertEqual(line.add(table, row), shadow.add(table, row))
        elif word == "change":
            entry, table, _ = source.choice(shadow.entries)
            row = row_of(source, dict(shadow.pipeline().tables)[table])
            self.assertEqual((line.change(entry, row), shadow.change(entry, row)), (None, None))
        elif word in ("remove", "put"):
            told = [source.choice(shadow.entries)[0]] + ([source.random() < 0.5] if word == "put" else [])
            self.assertEqual((getattr(line, word)(*told), getattr(shadow, word)(*told)), (None, None))
        elif word == "define":
            name = source.choice(self.steps_at(shadow))
            text = self.query(source, shadow, names[:names.index(name)], QUERIES)
            self.assertEqual((line.define(name, text), shadow.define(name, text)), (None, None))
        elif word == "add_step" and len(names) < 5:
            name = source.choice([f"s{at}" for at in range(9) if f"s{at}" not in names])
            text = self.query(source, shadow, names, QUERIES + OTHERS * 2)
            self.assertIsNone(line.add_step(f"step {name} = {text};"))
            shadow.add_step(name, text)
        elif word in ("drop", "add_step"):
            self.assertEqual((line.drop(), shadow.drop()), (None, None))
        else:
            self.assertEqual(line.back(), shadow.back())
        return word

    def overview(self, line):
        names = [name for name, _ in line.steps()]
        rows = {name: (line.rows(name), line.candidates(name), line.sure(name), line.questions(name)) for name in names}
        return line.tables(), line.steps(), line.entries(), rows, line.ran(), line.version()

    def pair(self, source):
        steps = []
        for at in range(source.randint(0, 3)):
            text = source.choice(QUERIES).replace("{s}", source.choice([name for name, _ in steps] + ["t"]))
            steps.append((f"s{at}", text))
        shadow = Shadow(TABLES, steps)
        return Line(shadow.source()), shadow

    def pairs(self, seed, number, operations):
        """Yields lines and what they have to be, after some operations."""
        source = random.Random(seed)
        for _ in range(number):
            line, shadow = self.pair(source)
            for _ in range(operations):
                self.operate(source, line, shadow)
            yield source, line, shadow

    def rows_of(self, source, shadow):
        """Yields steps with rows as they are inside and as they are shown."""
        for at, (name, columns) in enumerate(shadow.pipeline().steps):
            some = shadow.candidates(at)
            some = source.sample(some, min(len(some), 3)) + [plain(row_of(source, columns))]
            for row in some:
                yield name, at, row, shown(row, columns)

    def test_operations_one_by_one(self):
        source = random.Random(54)
        words = {}
        for _ in range(25):
            line, shadow = self.pair(source)
            self.assertEqual(self.overview(line), shadow.overview())
            for _ in range(20):
                word = self.operate(source, line, shadow)
                words[word] = words.get(word, 0) + 1
                self.assertEqual(self.overview(line), shadow.overview())
        self.assertEqual(len(words), 8)
        self.assertGreater(min(words.values()), 10)

    def test_all_of_it_taken_back(self):
        for _, line, shadow in self.pairs(55, 10, 15):
            while shadow.history:
                self.assertIs(line.back(), shadow.back())
                self.assertEqual(self.overview(line), shadow.overview())
            self.assertIs(line.back(), False)
            self.assertEqual(self.overview(line), shadow.overview())

    def test_a_line_opened_anew(self):
        for source, line, shadow in self.pairs(56, 25, 25):
            again = Line(shadow.source())
            for number in range(max(shadow.numbers(), default=-1) + 1):
                # Numbers that are no longer there are skipped by adding and removing.
                found = [(table, row, there) for entry, table, row, there in line.entries() if entry == number]
                table, row, there = found[0] if found else ("t", (None, None), True)
                self.assertEqual(again.add(table, row), number)
                again.put(number, there)
                if not found:
                    again.remove(number)
            self.assertEqual(self.overview(again)[:4], self.overview(line)[:4])
            for name, _, _, row in self.rows_of(source, shadow):
                for word in ("condition", "why", "depends", "cases", "shares", "ways", "down", "origins"):
                    self.assertEqual(getattr(again, word)(name, row), getattr(line, word)(name, row))

    def test_conditions(self):
        for source, line, shadow in self.pairs(57, 30, 15):
            numbers = list(shadow.numbers())
            for name, at, row, told in self.rows_of(source, shadow):
                model = shadow.model(at, row)
                store, made = models.kept(model, numbers)
                self.assertEqual(line.condition(name, told), models.table(model, numbers))
                for choice in source.sample(models.subsets(numbers), min(4, 2 ** len(numbers))):
                    # Duplicates count once.
                    self.assertIs(line.holds(name, told, sorted(choice) * 2), choice in model)
                self.assertEqual(line.depends(name, told), [(entry, store.helps(made, entry), store.hurts(made, entry))
                                                            for entry in models.depends(model, numbers)])
                self.assertEqual(line.ways(name, told), len(model))
                self.assertEqual(line.cases(name, told), cases(store, made))
                for other, there, other_row, other_told in self.rows_of(source, shadow):
                    self.assertIs(line.implies(name, told, other, other_told), model <= shadow.model(there, other_row))

    def test_analysis(self):
        for source, line, shadow in self.pairs(58, 30, 15):
            numbers, present = list(shadow.numbers()), shadow.present()
            for name, at, row, told in self.rows_of(source, shadow):
                model = shadow.model(at, row)
                store, made = models.kept(model, numbers)
                out = frozenset(present) in model
                self.assertEqual(line.why(name, told), (out, reasons(store, made, present)))
                kept = [entry for entry in numbers if source.random() < 0.3] * 2
                allowed = [entry for entry in numbers if entry not in kept]
                other = store.negation(made)
                self.assertEqual(line.changes(name, told, kept), changes(store, other if out else made, present, allowed))
                self.assertEqual(line.blame(name, told, kept), blame(store, made, present, allowed))
                self.assertEqual(line.shares(name, told), shares(store, made, present))
                costs = [source.choice([None, 0, 1, 2, 1000]) for _ in numbers]
                able = {entry: cost for entry, cost in zip(numbers, costs) if cost is not None}
                self.assertEqual(line.cheapest(name, told, True, costs), cheapest(store, made, present, able))
                self.assertEqual(line.cheapest(name, told, False, costs), cheapest(store, other, present, able))
                chances = [source.choice([0, 1000, 500, 3]) for _ in numbers]
                by_entry = dict(zip(numbers, chances))
                self.assertEqual(line.chance(name, told, chances), chance(store, made, by_entry))
                self.assertEqual(line.given(name, told, chances), chances_given(store, made, by_entry, numbers))

    def test_outcomes_and_what_if(self):
        for source, line, shadow in self.pairs(59, 30, 15):
            numbers, present = list(shadow.numbers()), shadow.present()
            costs = [source.choice([None, 0, 1, 2]) for _ in numbers]
            able = {entry: cost for entry, cost in zip(numbers, costs) if cost is not None}
            for at, (name, columns) in enumerate(shadow.pipeline().steps):
                some = shadow.candidates(at)
                for width in range(len(columns) + 1):
                    prefix = plain(row_of(source, columns))[:width]
                    expected, others = [], frozenset()
                    for row in [row for row in some if row[:width] == prefix]:
                        model = shadow.model(at, row)
                        store, made = models.kept(model, numbers)
                        change = cheapest(store, made, present, able)
                        expected += [] if change is None else [(shown(row, columns),) + change]
                        others |= model
                    values = shown(prefix, columns)
                    self.assertEqual(line.outcomes(name, values, costs), expected)
                    store, none = models.kept(models.negation(others, numbers), numbers)
                    self.assertEqual(line.none_of(name, values, costs), cheapest(store, none, present, able))
                turned = [entry for entry in numbers if source.random() < 0.4]
                then = frozenset(present) ^ frozenset(turned)
                changed = [row for row in some if (then in shadow.model(at, row)) != (
                    frozenset(present) in shadow.model(at, row))]
                self.assertEqual(line.what_if(name, turned * 2), tuple(
                    [shown(row, columns) for row in changed if (then in shadow.model(at, row)) == comes]
                    for comes in (False, True)))

    def test_versions(self):
        told_apart = 0
        for source, line, shadow in self.pairs(60, 40, 20):
            for version in range(len(shadow.versions)):
                expected = shadow.compare(version)
                self.assertEqual(line.compare(version), expected)
                self.assertIs(line.equal(version), all(parts[1:] == ([], [], []) for parts in expected))
                for name, at, row, told in self.rows_of(source, shadow):
                    apart = shadow.separate(version, at, row)
                    told_apart += apart not in (None, [])
                    self.assertEqual(line.separate(version, name, told), apart)
            for name, at, row, told in self.rows_of(source, shadow):
                self.assertEqual(line.since(name, told), shadow.since(at, row))
        self.assertGreater(told_apart, 100)

    def test_traces(self):
        for source, line, shadow in self.pairs(61, 40, 15):
            pipeline, present = shadow.pipeline(), shadow.present()
            tables, steps = [[name for name, _ in given] for given in (pipeline.tables, pipeline.steps)]
            entries = [(number, pipeline.table_index(table), row) for number, table, row in shadow.entries]
            rows = step_rows(pipeline.plans, entries, present)
            there = [[row for number, table, row in entries if table == at and number in present] for at in (0, 1)]
            for name, at, row, told in self.rows_of(source, shadow):
                self.assertEqual(line.origins(name, told), origins(pipeline.plans, entries, at, row))
                expected = []
                for is_step, index, found in deciding_rows(pipeline.plans[at], there, rows, row):
                    other, columns = (pipeline.steps if is_step else pipeline.tables)[index]
                    expected.append((other, shown(found, columns)))
                self.assertEqual(line.down(name, told), expected)
                used = uses(pipeline.plans[at])
                self.assertEqual(line.uses(name), ([tables[index] for index in used[0]], [steps[index] for index in used[1]]))
                self.assertIs(line.falling(name), falling(pipeline.plans)[at])


if __name__ == "__main__":
    unittest.main()

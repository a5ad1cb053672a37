"""Lines: pipelines with all their versions, and what can be asked about their rows."""

from lineworks.arguments import check_arguments
from lineworks.blame import blame
from lineworks.cases import cases
from lineworks.chances import chance, chances_given
from lineworks.changes import changes
from lineworks.cheapest import cheapest
from lineworks.deciding import deciding_rows
from lineworks.diagrams import ALWAYS
from lineworks.errors import NoSuchStep, TooManyEntries
from lineworks.held import Held
from lineworks.origins import falling, origins, uses
from lineworks.outcomes import none_of, outcomes
from lineworks.pipelines import append_step, define_step, drop_step
from lineworks.queries import rows_of_tables
from lineworks.reasons import reasons
from lineworks.shares import shares
from lineworks.shown import check_row, check_values, plain_row, shown_row, shown_rows
from lineworks.versions import are_equal, compare, separate, since

MOST_ENTRIES = 60


class Line:
    """A line. Rows are told with True and False, tables and steps by their names, input rows by their numbers."""

    def __init__(self, source, *, most_rows=200, most_nodes=200):
        check_arguments(source=source)
        self.held = Held(source, most_rows, most_nodes)

    def add(self, table, row):
        """Adds an input row to a table and returns its number."""
        check_arguments(table=table, row=row)
        at = self.held.table_at(table)
        pipeline, version = self.held.pipeline(), self.held.version()
        _, columns = pipeline.tables[at]
        check_row(row, columns)
        if len(version.entries) >= MOST_ENTRIES:
            raise TooManyEntries("there are as many input rows as there may be")
        number = version.next_entry
        self.held.edit(("add", at, plain_row(row)), pipeline, with_entry(self.held.is_there, number, True))
        return number

    def remove(self, entry):
        """Removes an input row."""
        check_arguments(entry=entry)
        self.held.entry_at(entry)
        left = {number: told for number, told in self.held.is_there.items() if number != entry}
        self.held.edit(("remove", entry), self.held.pipeline(), left)

    def change(self, entry, row):
        """Gives an input row another row."""
        check_arguments(entry=entry, row=row)
        _, table, _ = self.held.version().entries[self.held.entry_at(entry)]
        pipeline = self.held.pipeline()
        _, columns = pipeline.tables[table]
        check_row(row, columns)
        self.held.edit(("change", entry, plain_row(row)), pipeline, self.held.is_there)

    def put(self, entry, there):
        """Says whether an input row is there now."""
        check_arguments(entry=entry)
        self.held.entry_at(entry)
        is_there = with_entry(self.held.is_there, entry, there)
        self.held.operate(self.held.versions, self.held.pipelines, is_there)

    def define(self, step, text):
        """Gives a step another query."""
        check_arguments(step=step, text=text)
        at = self.held.step_at(step)
        pipeline = define_step(self.held.pipeline(), at, text)
        self.held.edit(("define", at, pipeline.plans[at]), pipeline, self.held.is_there)

    def add_step(self, text):
        """Adds a step behind all others."""
        check_arguments(text=text)
        pipeline = append_step(self.held.pipeline(), text)
        self.held.edit(("append", pipeline.plans[-1]), pipeline, self.held.is_there)

    def drop(self):
        """Removes the last step."""
        if not self.held.pipeline().steps:
            raise NoSuchStep("there are no steps")
        self.held.edit(("drop",), drop_step(self.held.pipeline()), self.held.is_there)

    def back(self):
        """Takes back the last operation that was not taken back. Returns whether there was one."""
        return self.held.back()

    def tables(self):
        """Returns (name, columns) for each table."""
        return copied(self.held.pipeline().tables)

    def steps(self):
        """Returns (name, columns) for each step."""
        return copied(self.held.pipeline().steps)

    def entries(self):
        """Returns (entry, table, row, there) for each input row, ascending by entry."""
        found = []
        for number, table, row in self.held.version().entries:
            name, columns = self.held.pipeline().tables[table]
            found.append((number, name, shown_row(row, columns), self.held.is_there[number]))
        return found

    def rows(self, step):
        """Returns the rows that come out now."""
        check_arguments(step=step)
        return shown_rows(self.held.rows(step, self.held.present()), self.held.columns_of(step))

    def what_if(self, step, turned):
        """Returns (lost, gained): the rows that come out now alone, and those that would
        come out alone if some input rows were turned."""
        check_arguments(step=step, turned=turned)
        columns = self.held.columns_of(step)
        self.held.check_entries(turned)
        now = self.held.rows(step, self.held.present())
        then = self.held.rows(step, self.held.turned(turned))
        return shown_rows(without(now, then), columns), shown_rows(without(then, now), columns)

    def candidates(self, step):
        """Returns the rows of the candidates."""
        check_arguments(step=step)
        return shown_rows([row for row, _ in self.held.marks_of(step)], self.held.columns_of(step))

    def sure(self, step):
        """Returns the rows that always come out."""
        check_arguments(step=step)
        found = [row for row, condition in self.held.marks_of(step) if condition == ALWAYS]
        return shown_rows(found, self.held.columns_of(step))

    def questions(self, step):
        """Returns the size of the conditions of all candidates."""
        check_arguments(step=step)
        return self.held.store.size([condition for _, condition in self.held.marks_of(step)])

    def condition(self, step, row):
        """Returns the table of the condition of a row."""
        check_arguments(step=step, row=row)
        return self.held.store.table(self.held.condition(step, row))

    def holds(self, step, row, there):
        """Returns whether a row comes out if just some input rows are there."""
        check_arguments(step=step, row=row, there=there)
        condition = self.held.condition(step, row)
        self.held.check_entries(there)
        return self.held.store.holds(condition, there)

    def depends(self, step, row):
        """Returns (entry, helps, hurts) for each input row on which the condition of a row depends."""
        check_arguments(step=step, row=row)
        store, condition = self.held.store, self.held.condition(step, row)
        return [(entry, store.helps(condition, entry), store.hurts(condition, entry))
                for entry in store.depends(condition)]

    def implies(self, step, row, other_step, other_row):
        """Returns whether the condition of a row implies that of another one."""
        check_arguments(step=step, row=row, other_step=other_step, other_row=other_row)
        first = self.held.condition(step, row)
        return self.held.store.implies(first, self.held.condition(other_step, other_row))

    def ways(self, step, row):
        """Returns for how many sets of input rows a row comes out."""
        check_arguments(step=step, row=row)
        return self.held.store.ways(self.held.condition(step, row), self.held.numbers())

    def cases(self, step, row):
        """Returns the cases in which a row comes out as (there, missing)."""
        check_arguments(step=step, row=row)
        condition = self.held.condition(step, row)
        return cases(self.held.store, condition, most_nodes=self.held.most_nodes)

    def why(self, step, row):
        """Returns (out, reasons): whether a row comes out now, and why it does or does not."""
        check_arguments(step=step, row=row)
        condition, present = self.held.condition(step, row), self.held.present()
        return self.held.store.holds(condition, present), reasons(self.held.store, condition, present)

    def changes(self, step, row, kept):
        """Returns the least changes after which a row comes out if it does not now, or the other way round.
        The input rows in kept are not turned."""
        check_arguments(step=step, row=row, kept=kept)
        condition = self.held.condition(step, row)
        self.held.check_entries(kept)
        store, present = self.held.store, self.held.present()
        wanted = store.negation(condition) if store.holds(condition, present) else condition
        return changes(store, wanted, present, without(self.held.numbers(), kept))

    def cheapest(self, step, row, wanted, costs):
        """Returns the cheapest change after which a row comes out, or does not, as (cost, turned), or None."""
        check_arguments(step=step, row=row, costs=costs)
        condition = self.held.condition(step, row)
        by_entry = self.held.by_entry(costs)
        store = self.held.store
        return cheapest(store, condition if wanted else store.negation(condition), self.held.present(), by_entry)

    def blame(self, step, row, kept):
        """Returns (entry, others) for each input row to blame. Those in kept may not be turned."""
        check_arguments(step=step, row=row, kept=kept)
        condition = self.held.condition(step, row)
        self.held.check_entries(kept)
        return blame(self.held.store, condition, self.held.present(), without(self.held.numbers(), kept))

    def shares(self, step, row):
        """Returns (entry, numerator, denominator) for each input row that is there and counts."""
        check_arguments(step=step, row=row)
        return shares(self.held.store, self.held.condition(step, row), self.held.present())

    def chance(self, step, row, chances):
        """Returns the chance that a row comes out as (numerator, denominator)."""
        check_arguments(step=step, row=row, chances=chances)
        condition = self.held.condition(step, row)
        return chance(self.held.store, condition, self.held.cases_of(chances))

    def given(self, step, row, chances):
        """Returns (entry, numerator, denominator) for each input row, given that a row comes out, or None."""
        check_arguments(step=step, row=row, chances=chances)
        condition = self.held.condition(step, row)
        return chances_given(self.held.store, condition, self.held.cases_of(chances), self.held.numbers())

    def outcomes(self, step, values, costs):
        """Returns (row, cost, turned) for each outcome for a prefix."""
        check_arguments(step=step, values=values, costs=costs)
        columns = self.held.columns_of(step)
        check_values(values, columns)
        by_entry = self.held.by_entry(costs)
        found = outcomes(self.held.store, self.held.marks_of(step), plain_row(values), self.held.present(), by_entry)
        return [(shown_row(row, columns), cost, turned) for row, cost, turned in found]

    def none_of(self, step, values, costs):
        """Returns the cheapest change after which no row with a prefix comes out as (cost, turned), or None."""
        check_arguments(step=step, values=values, costs=costs)
        check_values(values, self.held.columns_of(step))
        by_entry = self.held.by_entry(costs)
        return none_of(self.held.store, self.held.marks_of(step), plain_row(values), self.held.present(), by_entry,
                       most_nodes=self.held.most_nodes)

    def ran(self):
        """Returns the names of the steps that were run for the version of now."""
        steps = self.held.pipeline().steps
        return [steps[at][0] for at in self.held.version().ran]

    def version(self):
        """Returns the index of the version of now."""
        return len(self.held.versions) - 1

    def compare(self, version):
        """Returns (step, lost, gained, changed) for each index at which a version or that of now has a step."""
        check_arguments(version=version)
        self.held.check_version(version)
        then, now = self.held.pipelines[version].steps, self.held.pipeline().steps
        told = []
        for at, parts in enumerate(compare(self.held.versions[version], self.held.version())):
            lost, gained, changed = parts
            # Where one of both has no step, no row of it is shown.
            name, columns = now[at] if at < len(now) else then[at]
            _, old_columns = then[at] if at < len(then) else now[at]
            told.append((name, shown_rows(lost, old_columns), shown_rows(gained, columns),
                         shown_rows(changed, columns)))
        return told

    def equal(self, version):
        """Returns whether a version and that of now are equal."""
        check_arguments(version=version)
        self.held.check_version(version)
        return are_equal(self.held.versions[version], self.held.version())

    def separate(self, version, step, row):
        """Returns the first choice that tells a version and that of now apart at a row, or None."""
        check_arguments(version=version, step=step, row=row)
        inside = self.held.row_of(step, row)
        self.held.check_version(version)
        old, new = self.held.versions[version], self.held.version()
        return separate(self.held.store, old, new, self.held.step_at(step), inside)

    def since(self, step, row):
        """Returns the index of the version since when a row has had its condition."""
        check_arguments(step=step, row=row)
        inside = self.held.row_of(step, row)
        return since(self.held.versions, self.held.step_at(step), inside)

    def uses(self, step):
        """Returns the names of the tables and of the steps that a step uses."""
        check_arguments(step=step)
        pipeline = self.held.pipeline()
        tables, steps = uses(pipeline.plans[self.held.step_at(step)])
        return [pipeline.tables[at][0] for at in tables], [pipeline.steps[at][0] for at in steps]

    def falling(self, step):
        """Returns whether a step is falling."""
        check_arguments(step=step)
        at = self.held.step_at(step)
        return falling(self.held.pipeline().plans)[at]

    def down(self, step, row):
        """Returns the deciding rows of a row, for what is there now, as a list of (name, row)."""
        check_arguments(step=step, row=row)
        inside = self.held.row_of(step, row)
        pipeline, present = self.held.pipeline(), self.held.present()
        entries = [entry for entry in self.held.version().entries if entry[0] in present]
        tables = rows_of_tables(pipeline.plans, entries)
        steps = [self.held.rows(name, present) for name, _ in pipeline.steps]
        told = []
        for is_step, at, found in deciding_rows(pipeline.plans[self.held.step_at(step)], tables, steps, inside):
            name, columns = pipeline.steps[at] if is_step else pipeline.tables[at]
            told.append((name, shown_row(found, columns)))
        return told

    def origins(self, step, row):
        """Returns the numbers of the origins of a row, ascending."""
        check_arguments(step=step, row=row)
        inside = self.held.row_of(step, row)
        return origins(self.held.pipeline().plans, self.held.version().entries, self.held.step_at(step), inside)


def with_entry(is_there, number, told):
    """Returns for each input row whether it is there, once this is told about one of them."""
    found = dict(is_there)
    found[number] = told
    return found


def without(first, second):
    """Returns those of the first list that are not in the second one."""
    others = {each: True for each in second}
    return [each for each in first if each not in others]


def copied(declared):
    return [(name, list(columns)) for name, columns in declared]

"""What a line holds: its versions, the input rows that are there now, and what can be taken back."""

from lineworks.carrying import condition_of
from lineworks.diagrams import Diagrams
from lineworks.errors import (
    NoSuchEntry,
    NoSuchStep,
    NoSuchTable,
    NoSuchVersion,
    TooManyOperations,
    WrongNumberOfChances,
    WrongNumberOfCosts,
)
from lineworks.kept import edit_version, open_version
from lineworks.pipelines import compile_source
from lineworks.shown import check_row, plain_row

MOST_OPERATIONS = 80


class Held:
    """All versions of a line and their pipelines. No list of it is modified: operations put new ones there."""

    def __init__(self, source, most_rows, most_nodes):
        self.store = Diagrams()
        self.most_rows = most_rows
        self.most_nodes = most_nodes
        pipeline = compile_source(source)
        version = open_version(self.store, pipeline.plans, widths_of(pipeline),
                               most_rows=most_rows, most_nodes=most_nodes)
        self.versions = [version]
        # The pipeline of each version.
        self.pipelines = [pipeline]
        # For each number of an input row whether it is there now.
        self.is_there = {}
        # What the three were before each operation that has not been taken back.
        self.history = []

    def version(self):
        """Returns the version of now."""
        return self.versions[-1]

    def pipeline(self):
        """Returns the pipeline of now."""
        return self.pipelines[-1]

    def numbers(self):
        """Returns the numbers of all input rows."""
        return [number for number, _, _ in self.version().entries]

    def present(self):
        """Returns the numbers of the input rows that are there now."""
        return [number for number in self.numbers() if self.is_there[number]]

    def turned(self, numbers):
        """Returns the numbers of the input rows that would be there if some were turned."""
        return [number for number in self.numbers() if self.is_there[number] != (number in numbers)]

    def table_at(self, table):
        """Returns the index of the table with the name."""
        at = self.pipeline().table_index(table)
        if at is None:
            raise NoSuchTable(f"there is no table {table}")
        return at

    def step_at(self, step):
        """Returns the index of the step with the name."""
        at = self.pipeline().step_index(step)
        if at is None:
            raise NoSuchStep(f"there is no step {step}")
        return at

    def columns_of(self, step):
        """Returns the columns of the step with the name."""
        _, columns = self.pipeline().steps[self.step_at(step)]
        return columns

    def marks_of(self, step):
        """Returns the candidates of the step with the name."""
        return self.version().marks[self.step_at(step)]

    def rows(self, step, present):
        """Returns the rows of the step with the name that come out if some input rows are there."""
        return [row for row, condition in self.marks_of(step) if self.store.holds(condition, present)]

    def row_of(self, step, row):
        """Returns a row of the step with the name as it is inside."""
        check_row(row, self.columns_of(step))
        return plain_row(row)

    def condition(self, step, row):
        """Returns the condition of a row of the step with the name."""
        inside = self.row_of(step, row)
        return condition_of(self.marks_of(step), inside)

    def entry_at(self, entry):
        """Returns the index of the input row with the number."""
        numbers = self.numbers()
        if entry not in numbers:
            raise NoSuchEntry(f"there is no input row {entry}")
        return numbers.index(entry)

    def check_entries(self, numbers):
        """Raises an error unless all numbers are those of input rows."""
        for number in numbers:
            self.entry_at(number)

    def check_version(self, version):
        """Raises an error unless there is a version with the number."""
        if version >= len(self.versions):
            raise NoSuchVersion(f"there is no version {version}")

    def by_entry(self, costs):
        """Returns the costs of those input rows that can be turned. costs has one for each, or None."""
        numbers = self.numbers()
        if len(costs) != len(numbers):
            raise WrongNumberOfCosts("there must be one cost for each input row")
        return {number: cost for number, cost in zip(numbers, costs) if cost is not None}

    def cases_of(self, chances):
        """Returns the cases of the input rows. chances has one number for each."""
        numbers = self.numbers()
        if len(chances) != len(numbers):
            raise WrongNumberOfChances("there must be one chance for each input row")
        return {number: cases for number, cases in zip(numbers, chances)}

    def edit(self, edit, pipeline, is_there):
        """Makes the version after an edit. Then there are this pipeline and these input rows."""
        version = edit_version(self.store, self.version(), edit, widths_of(pipeline),
                               most_rows=self.most_rows, most_nodes=self.most_nodes)
        self.operate(self.versions + [version], self.pipelines + [pipeline], is_there)

    def operate(self, versions, pipelines, is_there):
        """Makes an operation that can be taken back."""
        if len(self.history) >= MOST_OPERATIONS:
            raise TooManyOperations("there are too many operations to take back")
        self.history = self.history + [(self.versions, self.pipelines, self.is_there)]
        self.versions = versions
        self.pipelines = pipelines
        self.is_there = is_there

    def back(self):
        """Takes back the last operation. Returns whether there was one."""
        if not self.history:
            return False
        self.versions, self.pipelines, self.is_there = self.history[-1]
        self.history = self.history[:-1]
        return True


def widths_of(pipeline):
    """Returns the number of columns of each table."""
    return [len(columns) for _, columns in pipeline.tables]

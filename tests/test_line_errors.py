"""Point 57: the errors of a line, and their order. What is refused changes nothing."""

import unittest

from lineworks.errors import (
    InvalidArgument, NoSuchEntry, NoSuchStep, NoSuchTable, NoSuchVersion, SourceError, TooManyCases, TooManyChanges,
    TooManyEntries, TooManyOperations, TooManyQuestions, TooManyReasons, TooManyRows, WrongNumberOfChances,
    WrongNumberOfCosts, WrongRow,
)
from lineworks.line import Line

SOURCE = "table t (a int); table u (b text, c truth); step s = from t; step r = from u;"


def told(line):
    names = [name for name, _ in line.steps()]
    return (line.tables(), line.steps(), line.entries(), [line.candidates(name) for name in names],
            [[line.condition(name, row) for row in line.candidates(name)] for name in names], line.ran(), line.version())


def filled(line, entries, puts=0):
    """Adds different rows to the table t, and then makes operations that make no versions."""
    for number in range(entries):
        line.add("t", (number,))
    for _ in range(puts):
        line.put(0, True)
    return line


class ErrorCase(unittest.TestCase):
    def refused(self, error, line, method, *arguments):
        before = told(line)
        with self.assertRaises(error, msg=(method, arguments)) as caught:
            getattr(line, method)(*arguments)
        # No other class above or below it.
        self.assertIs(type(caught.exception), error)
        self.assertEqual(told(line), before)
        return caught.exception


class Names(ErrorCase):
    def setUp(self):
        self.line = Line(SOURCE)
        self.line.add("t", (1,))
        self.line.add("u", ("x", True))

    def test_no_such_table(self):
        for name in ("v", "s", "T", "", "x" * 20):
            self.refused(NoSuchTable, self.line, "add", name, (1,))
            # Before the row is looked at.
            self.refused(NoSuchTable, self.line, "add", name, (1, 2))

    def test_no_such_step(self):
        row, version = (1,), 0
        for name in ("v", "t", "S", "", "x" * 20):
            for method, more in (
                ("rows", []), ("candidates", []), ("sure", []), ("questions", []), ("uses", []), ("falling", []),
                ("what_if", [[9]]), ("define", ["from x"]), ("condition", [row]), ("depends", [row]), ("ways", [row]),
                ("cases", [row]), ("why", [row]), ("shares", [row]), ("since", [row]), ("down", [row]), ("origins", [row]),
                ("holds", [row, [9]]), ("changes", [row, [9]]), ("blame", [row, [9]]), ("cheapest", [row, True, []]),
                ("chance", [row, []]), ("given", [row, []]), ("outcomes", [row, []]), ("none_of", [row, []]),
                ("implies", [row, "x", (1, 2)]),
            ):
                self.refused(NoSuchStep, self.line, method, name, *more)
                if more and more[0] == row:
                    self.refused(NoSuchStep, self.line, method, name, ("x", 1, 1), *more[1:])
            self.refused(NoSuchStep, self.line, "separate", version, name, row)
            self.refused(NoSuchStep, self.line, "separate", 9, name, (1, 2))

    def test_drop_without_steps(self):
        line = Line("table t (a int);")
        self.refused(NoSuchStep, line, "drop")
        line.add_step("step s = from t;")
        line.drop()
        self.refused(NoSuchStep, line, "drop")
        filled(line, 1, 77)
        self.refused(NoSuchStep, line, "drop")

    def test_a_dropped_step(self):
        self.line.drop()
        self.refused(NoSuchStep, self.line, "rows", "r")
        self.line.back()
        self.assertEqual(self.line.rows("r"), [("x", True)])

    def test_no_such_entry(self):
        for number in (2, 60, 1000000):
            self.refused(NoSuchEntry, self.line, "remove", number)
            self.refused(NoSuchEntry, self.line, "put", number, True)
            # Before the row is looked at.
            for row in ((1,), (1, 2, 3), ("x", True)):
                self.refused(NoSuchEntry, self.line, "change", number, row)
        self.line.remove(0)
        self.refused(NoSuchEntry, self.line, "remove", 0)
        self.refused(NoSuchEntry, self.line, "put", 0, False)
        self.refused(NoSuchEntry, self.line, "change", 0, (1,))

    def test_numbers_in_lists(self):
        for numbers in ([2], [0, 1, 7], [1000000, 0], [0, 0, 2]):
            self.refused(NoSuchEntry, self.line, "what_if", "s", numbers)
            for method in ("holds", "changes", "blame"):
                self.refused(NoSuchEntry, self.line, method, "s", (1,), numbers)
                # Behind errors of the row.
                self.refused(WrongRow, self.line, method, "s", ("x",), numbers)
        self.line.remove(1)
        self.refused(NoSuchEntry, self.line, "what_if", "s", [1])

    def test_no_such_version(self):
        for number in (3, 4, 1000000):
            self.refused(NoSuchVersion, self.line, "compare", number)
            self.refused(NoSuchVersion, self.line, "equal", number)
            self.refused(NoSuchVersion, self.line, "separate", number, "s", (1,))
            self.refused(WrongRow, self.line, "separate", number, "s", ("x",))
        self.assertIs(self.line.equal(2), True)
        self.line.back()
        self.refused(NoSuchVersion, self.line, "equal", 2)


class Rows(ErrorCase):
    METHODS = [("condition", []), ("depends", []), ("ways", []), ("cases", []), ("why", []), ("shares", []), ("since", []),
               ("down", []), ("origins", []), ("holds", [[]]), ("changes", [[]]), ("blame", [[]]),
               ("cheapest", [True, [0, 0]]), ("cheapest", [False, []]), ("chance", [[0, 0]]), ("chance", [[]]),
               ("given", [[0, 0]]), ("given", [[0] * 5]), ("implies", ["r", ("x", True)]), ("implies", ["x", ()])]

    def setUp(self):
        self.line = Line(SOURCE)
        self.line.add("t", (1,))
        self.line.add("u", ("x", True))

    def test_wrong_rows(self):
        for name, table, entry, rows in (
            ("s", "t", 0, [(), (1, 1), ("1",), (True,), ("x", True)]),
            ("r", "u", 1, [(), ("x",), ("x", True, True), (1, True), (True, True), ("x", 1), ("x", "x"), (None, 0)]),
        ):
            for row in rows:
                for method, more in self.METHODS:
                    self.refused(WrongRow, self.line, method, name, row, *more)
                self.refused(WrongRow, self.line, "separate", 0, name, row)
                self.refused(WrongRow, self.line, "add", table, row)
                self.refused(WrongRow, self.line, "change", entry, row)

    def test_wrong_values(self):
        for name, values in (("s", (1, 1)), ("s", ("1",)), ("s", (False,)), ("r", (1,)), ("r", (None, 0)), ("r", ("x", True, 1)),
                             ("r", (None, None, None)), ("r", ("x", "x"))):
            for method in ("outcomes", "none_of"):
                self.refused(WrongRow, self.line, method, name, values, [0, 0])
                # Before the number of costs.
                self.refused(WrongRow, self.line, method, name, values, [])
        self.assertEqual(self.line.outcomes("r", (), [0, 0]), [(("x", True), 0, [])])
        self.assertEqual(self.line.outcomes("r", ("x", None), [0, 0]), [])

    def test_both_rows_of_implies(self):
        for arguments, error in (
            (("x", (1, 2), "x", (1, 2)), NoSuchStep), (("s", (1, 2), "x", (1, 2)), WrongRow), (("s", (1,), "x", (1, 2)), NoSuchStep),
            (("s", (1,), "r", (1, 2)), WrongRow), (("s", ("x", True), "r", ("x", True)), WrongRow),
            (("s", (1,), "r", ("y", 1)), WrongRow),
        ):
            self.refused(error, self.line, "implies", *arguments)
        self.assertIs(self.line.implies("s", (1,), "r", ("x", True)), False)

    def test_numbers_of_costs_and_chances(self):
        for numbers in ([], [0], [0, 0, 0], [0] * 60):
            for method, arguments in (("cheapest", ["s", (1,), True]), ("outcomes", ["s", (1,)]), ("none_of", ["s", (1,)])):
                self.refused(WrongNumberOfCosts, self.line, method, *arguments, numbers)
            for method in ("chance", "given"):
                self.refused(WrongNumberOfChances, self.line, method, "s", (1,), numbers)
        self.line.remove(0)
        self.refused(WrongNumberOfCosts, self.line, "cheapest", "s", (1,), True, [0, 0])
        self.assertEqual(self.line.cheapest("s", (1,), False, [0]), (0, []))


class Entries(ErrorCase):
    def test_the_sixtieth_and_the_sixty_first(self):
        line = filled(Line(SOURCE), 60)
        self.assertEqual(len(line.entries()), 60)
        self.refused(TooManyEntries, line, "add", "t", (1,))
        self.refused(TooManyEntries, line, "add", "u", ("x", None))
        line.remove(30)
        self.assertEqual(line.add("u", ("x", None)), 60)
        self.refused(TooManyEntries, line, "add", "t", (1,))

    def test_its_place_in_the_order(self):
        line = filled(Line(SOURCE + "step q = from t select a;", most_rows=60), 60, 20)
        # The row would be one too many, and so would the operation.
        self.refused(TooManyEntries, line, "add", "t", (100,))
        self.refused(WrongRow, line, "add", "t", ("x",))
        self.refused(NoSuchTable, line, "add", "x", ("x",))
        error = self.refused(InvalidArgument, line, "add", "x", (0,) * 17)
        self.assertEqual(error.name, "row")


class Texts(ErrorCase):
    def setUp(self):
        self.line = filled(Line(SOURCE), 2)

    def test_define(self):
        for name, text, expected in (
            ("s", "", (1, 1, "expected from")), ("s", "from t;", (1, 7, "expected the end")),
            ("s", "\n from u", (2, 2, "different columns")), ("s", " from s", (1, 2, "unknown table or step: s")),
            ("r", "from t where b", (1, 1, "unknown name: b")), ("r", "from u where ~", (1, 14, "unknown character")),
            ("r", "from u where b", (1, 1, "expected a truth value")),
        ):
            error = self.refused(SourceError, self.line, "define", name, text)
            self.assertEqual((error.line, error.column, error.message), expected)

    def test_add_step(self):
        for text, expected in (
            ("", (1, 1, "expected table or step")), ("from t", (1, 1, "expected table or step")),
            ("  table v (a int);", (1, 3, "expected step")), ("step q = from t", (1, 16, "expected ;")),
            ("step s = from t;", (1, 1, "declared twice: s")), ("step q = from q;", (1, 1, "unknown table or step: q")),
            ("step q = from t; step p = from t;", (1, 18, "expected the end")),
        ):
            error = self.refused(SourceError, self.line, "add_step", text)
            self.assertEqual((error.line, error.column, error.message), expected)

    def test_too_many_steps(self):
        for at in range(14):
            self.line.add_step(f"step q{at} = from t;")
        error = self.refused(SourceError, self.line, "add_step", "step q14 = from t;")
        self.assertEqual(error.message, "too many steps")

    def test_opening(self):
        for source, expected in (("step s = from t;", (1, 1, "unknown table or step: t")), ("table", (1, 6, "expected a name"))):
            with self.assertRaises(SourceError) as caught:
                Line(source, most_rows=0, most_nodes=0)
            error = caught.exception
            self.assertEqual((error.line, error.column, error.message), expected)


class Limits(ErrorCase):
    """The limits of a line hold for all its versions."""

    ROWS = SOURCE + "step q = from t select a;"
    COUNT = SOURCE + "step q = from t group with count as n;"

    def test_rows(self):
        line = filled(Line(self.ROWS, most_rows=3), 3)
        self.refused(TooManyRows, line, "add", "t", (7,))
        self.refused(TooManyRows, line, "define", "q", "from t select a union from t select a + 5 as a")
        self.refused(TooManyRows, line, "add_step", "step p = from t group with count as n;")
        self.assertEqual(line.add("t", (2,)), 3)
        self.refused(TooManyRows, line, "change", 3, (7,))
        line.change(3, (1,))
        line.add("u", ("x", True))
        # Another step is not run again, so its limits are not met.
        line.define("s", "from t where a > 1")
        self.assertEqual(line.candidates("q"), [(0,), (1,), (2,)])

    def test_rows_when_less_is_taken_away(self):
        line = Line("table t (a int); table u (a int); step s = from t where a > 9; step r = from t select a except from s;",
                    most_rows=2)
        line.add("t", (1,))
        line.add("t", (2,))
        self.refused(TooManyRows, line, "add", "t", (30,))
        line.change(1, (30,))
        self.refused(TooManyRows, line, "add", "t", (2,))

    def test_questions(self):
        line = filled(Line(self.COUNT, most_nodes=4), 2)
        self.assertEqual(line.candidates("q"), [(0,), (1,), (2,)])
        self.refused(TooManyQuestions, line, "add", "t", (2,))
        self.refused(TooManyQuestions, filled(Line(SOURCE, most_nodes=4), 3), "add_step",
                     "step q = from t group with count as n;")
        line = filled(Line(SOURCE, most_nodes=4), 3)
        self.refused(TooManyQuestions, line, "define", "s", "from t group with count as n select n as a")
        line = filled(Line(self.COUNT, most_nodes=4), 1)
        line.add("t", (0,))
        line.add("t", (7,))
        self.refused(TooManyQuestions, line, "change", 1, (5,))

    def test_opening(self):
        for source, most_rows in ((self.COUNT, 1), (self.ROWS, 0)):
            self.assertEqual(Line(source, most_rows=most_rows, most_nodes=0).version(), 0)
        self.assertRaises(TooManyRows, Line, self.COUNT, most_rows=0)

    def test_the_limits_that_are_not_given(self):
        # A join of 14 and 15 different rows has 210 rows, one of 14 and 14 has 196.
        pairs = "table t (a int); table u (a int); step s = from t join u on true select t.a, u.a as b;"
        line = Line(pairs)
        for number in range(14):
            line.add("t", (number,))
            line.add("u", (number,))
        self.refused(TooManyRows, line, "add", "t", (99,))
        line = Line(pairs, most_rows=210)
        for number in range(14):
            line.add("t", (number,))
            line.add("u", (number,))
        line.add("t", (99,))
        self.assertEqual(len(line.candidates("s")), 210)

    def test_questions_that_are_not_given(self):
        def after(number, **limits):
            line = Line("table t (a int, b int); step s = from t group a with count as n;", **limits)
            for at in range(number):
                line.add("t", (1, at))
            return line

        # Whether just 13 of 26 rows are there takes 14 * 14 - 1 questions, of 27 rows 14 * 15 - 1.
        line = after(26)
        self.assertEqual(max(len(line.condition("s", (1, n))[0]) for n in range(1, 27)), 195)
        self.refused(TooManyQuestions, line, "add", "t", (1, 99))
        self.assertEqual(len(after(27, most_nodes=500).candidates("s")), 27)

    def test_edits_behind_errors_of_texts_and_entries(self):
        line = filled(Line(self.ROWS, most_rows=3), 3, 77)
        for method, arguments, error in (
            ("add", ("t", (7,)), TooManyRows), ("add", ("t", (1,)), TooManyOperations), ("add", ("t", ("x",)), WrongRow),
            ("change", (0, (0,)), TooManyOperations), ("change", (9, (0,)), NoSuchEntry), ("remove", (0,), TooManyOperations),
            ("remove", (9,), NoSuchEntry), ("put", (0, False), TooManyOperations), ("put", (9, False), NoSuchEntry),
            ("define", ("q", "from t select a"), TooManyOperations), ("define", ("q", "from u"), SourceError),
            ("define", ("q", "from t select a union from t select a + 5 as a"), TooManyRows), ("define", ("x", ""), NoSuchStep),
            ("add_step", ("step p = from t;",), TooManyOperations), ("add_step", ("step q = from t;",), SourceError),
            ("add_step", ("step p = from t group with count as n;",), TooManyRows), ("drop", (), TooManyOperations),
        ):
            self.refused(error, line, method, *arguments)
        line.back()
        line.remove(0)
        self.assertEqual(line.rows("q"), [(1,), (2,)])


class Answers(ErrorCase):
    def test_too_many_cases(self):
        odd = SOURCE + "step q = from t group with count as n select n mod 2 as n;"
        line = filled(Line(odd), 8)
        self.assertEqual(len(line.cases("q", (1,))), 128)
        line.add("t", (8,))
        self.refused(TooManyCases, line, "cases", "q", (1,))
        self.refused(WrongRow, line, "cases", "q", (True,))
        self.refused(NoSuchStep, line, "cases", "x", (1,))

    def test_cases_with_few_questions(self):
        for most_nodes in (3, 4):
            line = Line(SOURCE, most_nodes=most_nodes)
            # Nothing is met for the step, whose condition has four questions.
            for _ in range(4):
                line.add("t", (1,))
            if most_nodes == 4:
                self.assertEqual(line.cases("s", (1,)), [([number], []) for number in range(4)])
            else:
                self.refused(TooManyCases, line, "cases", "s", (1,))

    def test_too_many_reasons_and_changes(self):
        line = filled(Line(SOURCE + "step q = from t group with count as n where n > 3 select 1 as one;"), 9)
        out, reasons = line.why("q", (1,))
        self.assertEqual((out, len(reasons)), (True, 126))
        self.assertEqual(len(line.changes("q", (1,), [])), 84)
        line.add("t", (9,))
        # 210 sets of 4 and of 6 of the 10 rows.
        self.refused(TooManyReasons, line, "why", "q", (1,))
        self.refused(WrongRow, line, "why", "q", (None, None))
        for entry in range(9):
            line.put(entry, False)
        line.put(9, False)
        self.refused(TooManyChanges, line, "changes", "q", (1,), [])
        self.refused(NoSuchEntry, line, "changes", "q", (1,), [70])
        self.assertEqual(len(line.changes("q", (1,), [0])), 126)

    def test_questions_of_none_of(self):
        line = filled(Line(SOURCE, most_nodes=3), 4)
        self.refused(TooManyQuestions, line, "none_of", "s", (), [0] * 4)
        self.refused(WrongNumberOfCosts, line, "none_of", "s", (), [0] * 3)
        self.refused(WrongRow, line, "none_of", "s", (1, 1), [0] * 3)
        self.assertEqual(line.none_of("s", (3,), [5] * 4), (5, [3]))
        line.remove(0)
        self.assertEqual(line.none_of("s", (), [5] * 3), (15, [1, 2, 3]))
        # There is no such limit for outcomes.
        line.back()
        self.assertEqual(len(line.outcomes("s", (), [0] * 4)), 4)


if __name__ == "__main__":
    unittest.main()

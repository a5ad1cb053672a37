"""Points 55 and 56: what is passed to a line, and its limits."""

import copy
import itertools
import unittest

from lineworks.errors import (
    InvalidArgument, LineError, NoSuchEntry, NoSuchStep, NoSuchTable, NoSuchVersion, SourceError, WrongNumberOfChances,
    WrongNumberOfCosts, WrongRow,
)
from lineworks.line import Line

GREATEST = 10 ** 15
SOURCE = "table t (a int, b text, c truth); step s = from t;"
ROW = (1, "x", True)
# The parameters of each method, in their order.
METHODS = {
    "add": ["table", "row"], "remove": ["entry"], "change": ["entry", "row"], "put": ["entry", None],
    "define": ["step", "text"], "add_step": ["text"], "rows": ["step"], "what_if": ["step", "turned"],
    "candidates": ["step"], "sure": ["step"], "questions": ["step"], "condition": ["step", "row"],
    "holds": ["step", "row", "there"], "depends": ["step", "row"],
    "implies": ["step", "row", "other_step", "other_row"], "ways": ["step", "row"], "cases": ["step", "row"],
    "why": ["step", "row"], "changes": ["step", "row", "kept"], "cheapest": ["step", "row", None, "costs"],
    "blame": ["step", "row", "kept"], "shares": ["step", "row"], "chance": ["step", "row", "chances"],
    "given": ["step", "row", "chances"], "outcomes": ["step", "values", "costs"], "none_of": ["step", "values", "costs"],
    "compare": ["version"], "equal": ["version"], "separate": ["version", "step", "row"], "since": ["step", "row"],
    "uses": ["step"], "falling": ["step"], "down": ["step", "row"], "origins": ["step", "row"],
}
GOOD = {
    "table": "t", "step": "s", "other_step": "s", "row": ROW, "other_row": ROW, "values": (1,), "entry": 0, "version": 0,
    "turned": [0], "kept": [0], "there": [0], "costs": [3, None], "chances": [3, 1000], "text": "from t", None: True,
}
ROWS = (
    [(0,) * 17, ("x" * 101,), (1, "x" * 101, True), (GREATEST + 1, "x", True), (-GREATEST - 1,), (None,) * 17, (True,) * 17],
    [(0,) * 16, ("x" * 100,), (GREATEST, "x" * 100, True), (-GREATEST, None, False), (None,) * 16, ()],
)
NUMBERS = ([[0] * 61, [1000001], [0, -1], list(range(61))], [[0] * 60, [1000000], [], list(range(60))])
NAMES = (["x" * 21, "s" * 500], ["x" * 20, ""])
ONES = ([-1, 1000001], [0, 1000000])
# For each parameter values that break its rule, and values just at its limits.
LIMITS = {
    "table": NAMES, "step": NAMES, "other_step": NAMES, "row": ROWS, "other_row": ROWS, "values": ROWS, "entry": ONES,
    "version": ONES, "turned": NUMBERS, "kept": NUMBERS, "there": NUMBERS,
    "costs": ([[0] * 61, [1001], [0, -1], [None] * 61], [[0] * 60, [1000, 0], [None] * 60, []]),
    "chances": ([[0] * 61, [1001], [0, -1]], [[0] * 60, [1000, 0], []]),
    "text": (["#" * 2001, "from t" + " " * 1995], ["#" * 2000, "from t" + " " * 1994]),
}
# For each parameter a value that breaks no rule, but has an error of point 57.
WRONG = {
    "table": "x", "step": "x", "other_step": "x", "row": (1,), "other_row": ("x", 1, 1), "values": ("x",), "entry": 77,
    "version": 77, "turned": [77], "kept": [77], "there": [77], "costs": [1], "chances": [1], "text": "from x", None: False,
}


def opened():
    line = Line(SOURCE)
    line.add("t", ROW)
    line.add("t", (2, None, False))
    return line


def told(line):
    return line.tables(), line.steps(), line.entries(), line.candidates("s"), line.ran(), line.version()


class Arguments(unittest.TestCase):
    def refused(self, line, method, arguments, name):
        kept, before = copy.deepcopy(arguments), told(line)
        with self.assertRaises(InvalidArgument, msg=(method, arguments)) as caught:
            getattr(line, method)(*arguments)
        self.assertEqual(caught.exception.name, name, (method, arguments))
        self.assertEqual((arguments, told(line)), (kept, before))

    def test_one_beyond_a_limit(self):
        line = opened()
        for method, names in METHODS.items():
            for at, name in enumerate(names):
                for value in LIMITS[name][0] if name else []:
                    # Whether the others are good or not: this comes before all other errors.
                    for others in (GOOD, WRONG):
                        arguments = [value if other == at else others[each] for other, each in enumerate(names)]
                        self.refused(line, method, arguments, name)

    def test_two_that_break_a_rule(self):
        line = opened()
        for method, names in METHODS.items():
            for first, second in itertools.combinations([at for at, name in enumerate(names) if name], 2):
                arguments = [LIMITS[name][0][0] if at in (first, second) else GOOD[name] for at, name in enumerate(names)]
                self.refused(line, method, arguments, names[first])

    def test_just_at_a_limit(self):
        for method, names in METHODS.items():
            for at, name in enumerate(names):
                for value in LIMITS[name][1] if name else []:
                    line = opened()
                    try:
                        getattr(line, method)(*[value if other == at else GOOD[each] for other, each in enumerate(names)])
                    except LineError as error:
                        self.assertNotIsInstance(error, InvalidArgument, (method, name, value))

    def test_good_values_are_not_refused(self):
        for method, names in METHODS.items():
            arguments = [GOOD[name] for name in names] if method != "add_step" else ["step r = from s;"]
            getattr(opened(), method)(*arguments)

    def test_what_an_error_of_point_57_is_about(self):
        expected = {
            "table": NoSuchTable, "step": NoSuchStep, "other_step": NoSuchStep, "row": WrongRow, "other_row": WrongRow,
            "values": WrongRow, "entry": NoSuchEntry, "version": NoSuchVersion, "turned": NoSuchEntry, "kept": NoSuchEntry,
            "there": NoSuchEntry, "costs": WrongNumberOfCosts, "chances": WrongNumberOfChances, "text": SourceError,
        }
        for method, names in METHODS.items():
            for at, name in enumerate(names):
                if name:
                    line = opened()
                    before = told(line)
                    arguments = [WRONG[each] if other == at else GOOD[each] for other, each in enumerate(names)]
                    with self.assertRaises(expected[name], msg=(method, name)):
                        getattr(line, method)(*arguments)
                    self.assertEqual(told(line), before)

    def test_the_source(self):
        self.assertEqual(Line(SOURCE + " " * (2000 - len(SOURCE))).steps(), Line(SOURCE).steps())
        for source in (SOURCE + " " * (2001 - len(SOURCE)), "~" * 2001):
            with self.assertRaises(InvalidArgument) as caught:
                Line(source)
            self.assertEqual((caught.exception.name, str(caught.exception)), ("source", "invalid argument: source"))
        self.assertRaises(SourceError, Line, "~" * 2000)

    def test_lists_at_their_limit(self):
        line = Line("table t (a int); step s = from t;")
        for number in range(60):
            line.add("t", (number,))
        everything = list(range(60))
        self.assertEqual(line.what_if("s", everything), ([(number,) for number in everything], []))
        self.assertIs(line.holds("s", (7,), everything), True)
        self.assertEqual(line.changes("s", (7,), everything), [])
        self.assertEqual(line.cheapest("s", (7,), False, [1000] * 60), (1000, [7]))
        self.assertEqual(line.chance("s", (7,), [1000] * 60), (1, 1))


class Values(unittest.TestCase):
    def test_truth_in_arguments_and_results(self):
        line = Line("""
            table t (a truth, b int); step s = from t select not a as a, b, b > 1 as c; step r = from t group a with count as n;
        """)
        for row in ((True, 1), (False, 2), (None, 1), (True, 0)):
            line.add("t", row)
        found = line.rows("s")
        # None, then False, then True.
        self.assertEqual(found, [(None, 1, False), (False, 0, False), (False, 1, False), (True, 2, True)])
        for row in found + [each[2] for each in line.entries()]:
            for value, kind in zip(row, (bool, int, bool)):
                self.assertIn(type(value), (kind, type(None)))
        self.assertEqual(line.entries()[1], (1, "t", (False, 2), True))
        self.assertIs(line.entries()[1][2][0], False)
        self.assertEqual(line.rows("r"), [(None, 1), (False, 1), (True, 2)])
        self.assertIs(line.rows("r")[2][0], True)
        self.assertEqual(line.condition("s", (True, 2, True)), ([(1, 0, 1)], 2))
        self.assertEqual(line.condition("s", (True, 2, False)), ([], 0))
        for row in (line.what_if("s", [1])[0][0], line.candidates("s")[3], line.outcomes("s", (True,), [0] * 4)[0][0]):
            self.assertEqual([type(value) for value in row], [bool, int, bool])
        line.put(1, False)
        self.assertEqual([type(value) for value in line.what_if("s", [1])[1][0]], [bool, int, bool])
        self.assertEqual(line.down("r", (True, 2)), [("t", (True, 0)), ("t", (True, 1))])
        self.assertIs(line.down("r", (True, 2))[0][1][0], True)

    def test_sure_rows(self):
        line = Line("table t (a int); step s = from t group with count as n select n > -1 as a, null = 1 as b;")
        self.assertEqual(line.sure("s"), [(True, None)])
        self.assertIs(line.sure("s")[0][0], True)

    def test_values_of_another_kind(self):
        line = opened()
        for row in ((True, "x", True), ("1", "x", True), (1, 1, True), (1, True, True), (1, "x", 1), (1, "x", 0), (1, "x", ""),
                    (1, "x"), (1, "x", True, None), (), (None,)):
            self.assertRaises(WrongRow, line.add, "t", row)
            self.assertRaises(WrongRow, line.change, 0, row)
            self.assertRaises(WrongRow, line.condition, "s", row)
        for values in ((True,), ("1",), (1, 1), (1, True), (1, "x", 1), (1, "x", True, None)):
            self.assertRaises(WrongRow, line.outcomes, "s", values, [0, 0])
            self.assertRaises(WrongRow, line.none_of, "s", values, [0, 0])

    def test_none_fits_each_kind(self):
        line = opened()
        self.assertEqual(line.add("t", (None, None, None)), 2)
        self.assertEqual(line.rows("s"), [(None, None, None), (1, "x", True), (2, None, False)])
        self.assertEqual(line.ways("s", (None, None, None)), 4)
        self.assertEqual(line.outcomes("s", (None, None), [0, 0, 0]), [((None, None, None), 0, [])])
        self.assertEqual(line.outcomes("s", (2, None, False), [0, 0, 0]), [((2, None, False), 0, [])])

    def test_lists_with_duplicates(self):
        line = opened()
        self.assertEqual(line.what_if("s", [0, 0]), ([ROW], []))
        self.assertIs(line.holds("s", ROW, [0, 0, 0]), True)
        self.assertEqual(line.changes("s", ROW, [1, 1]), [[0]])
        self.assertEqual(line.changes("s", ROW, [0, 0]), [])
        self.assertEqual(line.blame("s", ROW, [0, 0, 1]), [])


if __name__ == "__main__":
    unittest.main()

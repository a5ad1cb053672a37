"""Point 54: the operations of a line, and taking them back."""

import copy
import unittest

from lineworks.errors import LineError, SourceError, TooManyOperations
from lineworks.line import Line

SOURCE = """
    table t (a int, b truth); table u (a int); step s = from t anti join u on t.a = u.a;
    step r = from s group b with count as n; step q = from u;
"""
OPERATIONS = [
    ("add", "t", (7, None)), ("add", "u", (1,)), ("remove", 1), ("remove", 4), ("change", 0, (3, False)), ("change", 2, (5,)),
    ("put", 0, False), ("put", 0, True), ("put", 4, True), ("define", "s", "from t"), ("define", "q", "from u where a > 2"),
    ("add_step", "step p = from q union from t select a;"), ("drop",),
]


def opened():
    line = Line(SOURCE)
    for table, row in (("t", (1, True)), ("t", (2, False)), ("u", (2,)), ("u", (2,)), ("t", (4, True))):
        line.add(table, row)
    line.put(4, False)
    line.put(3, False)
    return line


def told(line):
    """Returns all that a line tells of itself."""
    found = [line.tables(), line.steps(), line.entries(), line.ran(), line.version()]
    costs = [1 for _ in line.entries()]
    for name, _ in line.steps():
        found += [line.rows(name), line.candidates(name), line.sure(name), line.questions(name), line.uses(name),
                  line.falling(name), line.outcomes(name, (), costs)]
        for row in line.candidates(name):
            found += [line.condition(name, row), line.why(name, row), line.since(name, row), line.origins(name, row),
                      line.down(name, row), line.ways(name, row), line.shares(name, row)]
    for version in range(line.version() + 1):
        found += [line.compare(version), line.equal(version)]
    return found


def operate(line, operation):
    return getattr(line, operation[0])(*operation[1:])


class Back(unittest.TestCase):
    def test_each_operation_and_back(self):
        line = opened()
        before = told(line)
        for operation in OPERATIONS:
            result = operate(line, operation)
            self.assertEqual(result, 5 if operation[0] == "add" else None)
            after = told(line)
            self.assertEqual(after == before, operation[0] == "put" and operation[1:] == (0, True), operation)
            self.assertIs(line.back(), True)
            self.assertEqual(told(line), before)
            # The same operation gives the same again, numbers of input rows included.
            self.assertEqual(operate(line, operation), result)
            self.assertEqual(told(line), after)
            self.assertIs(line.back(), True)

    def test_pairs_of_operations(self):
        line = opened()
        before = told(line)
        for first in OPERATIONS:
            operate(line, first)
            after = told(line)
            for second in OPERATIONS:
                try:
                    operate(line, second)
                except LineError:
                    self.assertEqual(told(line), after)
                else:
                    line.back()
                self.assertEqual(told(line), after)
            line.back()
            self.assertEqual(told(line), before)

    def test_nothing_to_take_back(self):
        line = Line(SOURCE)
        before = told(line)
        self.assertIs(line.back(), False)
        line.add("t", (1, True))
        self.assertEqual([line.back(), line.back(), line.back()], [True, False, False])
        self.assertEqual(told(line), before)

    def test_what_was_refused_is_no_operation(self):
        line = Line(SOURCE)
        line.add("t", (1, True))
        for _ in range(3):
            self.assertRaises(SourceError, line.define, "s", "from")
            self.assertRaises(LineError, line.remove, 7)
        self.assertEqual([line.back(), line.back()], [True, False])

    def test_questions_are_no_operations(self):
        line = opened()
        told(line)
        self.assertEqual([line.back() for _ in range(8)], [True] * 7 + [False])

    def test_back_and_on(self):
        line = Line("table t (a int); step s = from t;")
        self.assertEqual([line.add("t", (number,)) for number in (5, 6)], [0, 1])
        line.back()
        self.assertEqual((line.add("t", (7,)), line.version()), (1, 2))
        self.assertEqual(line.entries(), [(0, "t", (5,), True), (1, "t", (7,), True)])
        self.assertEqual(line.compare(1), [("s", [], [(7,)], [])])
        self.assertEqual((line.since("s", (7,)), line.since("s", (6,))), (2, 0))

    def test_versions_that_were_taken_back(self):
        line = opened()
        number = line.version()
        line.define("s", "from t")
        self.assertIs(line.equal(number), False)
        line.back()
        self.assertEqual((line.version(), line.equal(number)), (number, True))
        line.add("u", (9,))
        self.assertEqual(line.version(), number + 1)
        self.assertEqual(line.compare(number)[2], ("q", [], [(9,)], []))


class Operations(unittest.TestCase):
    def test_add(self):
        line = Line(SOURCE)
        self.assertEqual([line.add("t", (1, True)), line.add("u", (1,)), line.add("t", (1, True))], [0, 1, 2])
        # An input row that is added is there.
        self.assertEqual([there for _, _, _, there in line.entries()], [True] * 3)

    def test_numbers_never_come_back(self):
        line = Line(SOURCE)
        for number in range(6):
            self.assertEqual(line.add("u", (number,)), number)
            line.remove(number)
        self.assertEqual(line.entries(), [])
        self.assertEqual((line.add("u", (1,)), line.add("t", (1, None))), (6, 7))

    def test_entries_ascend(self):
        line = opened()
        line.remove(2)
        line.change(1, (9, None))
        line.add("u", (0,))
        self.assertEqual(line.entries(), [(0, "t", (1, True), True), (1, "t", (9, None), True), (3, "u", (2,), False),
                                          (4, "t", (4, True), False), (5, "u", (0,), True)])

    def test_put_makes_no_version(self):
        line = opened()
        before = line.version(), line.ran(), [line.condition("s", row) for row in line.candidates("s")]
        for there in (False, True, False, False):
            self.assertIsNone(line.put(0, there))
            self.assertEqual(line.entries()[0], (0, "t", (1, True), there))
            self.assertEqual((line.version(), line.ran(), [line.condition("s", row) for row in line.candidates("s")]), before)
        self.assertEqual(line.rows("s"), [])
        # It is an operation, also if it changes nothing.
        line.back()
        self.assertEqual(line.rows("s"), [])
        line.back()
        self.assertEqual(line.rows("s"), [(1, True)])

    def test_change_leaves_whether_it_is_there(self):
        line = opened()
        line.change(4, (8, False))
        line.change(0, (8, None))
        self.assertEqual([line.entries()[at] for at in (0, 4)], [(0, "t", (8, None), True), (4, "t", (8, False), False)])

    def test_remove(self):
        line = opened()
        self.assertEqual(line.rows("s"), [(1, True)])
        line.remove(2)
        self.assertEqual([entry for entry, _, _, _ in line.entries()], [0, 1, 3, 4])
        self.assertEqual((line.rows("s"), line.depends("s", (2, False))), ([(1, True), (2, False)], [(1, True, False), (3, False, True)]))

    def test_define(self):
        line = opened()
        line.define("s", "from t where b")
        self.assertEqual((line.candidates("s"), line.candidates("r")), ([(1, True), (4, True)], [(True, 1), (True, 2)]))
        self.assertEqual(line.ran(), ["s", "r"])

    def test_add_step_and_drop(self):
        line = opened()
        line.add_step(" step p = from r where n > 1 ;")
        self.assertEqual(line.steps()[3:], [("p", [("b", "truth"), ("n", "int")])])
        self.assertEqual((line.candidates("p"), line.rows("p"), line.ran()), ([(True, 2)], [], ["p"]))
        line.drop()
        line.drop()
        self.assertEqual([name for name, _ in line.steps()], ["s", "r"])

    def test_the_eighty_first_operation(self):
        line = Line("table t (a int); step s = from t;")
        line.add("t", (1,))
        for at in range(79):
            line.put(0, at % 2 == 0)
        before = copy.deepcopy(told(line))
        for operation in (("add", "t", (1,)), ("remove", 0), ("change", 0, (2,)), ("put", 0, False), ("define", "s", "from t"),
                          ("add_step", "step r = from t;"), ("drop",)):
            self.assertRaises(TooManyOperations, operate, line, operation)
            self.assertEqual(told(line), before)
        self.assertIs(line.back(), True)
        line.define("s", "from t where a > 1")
        self.assertRaises(TooManyOperations, line.drop)
        self.assertEqual([line.back() for _ in range(81)], [True] * 80 + [False])
        self.assertEqual((line.entries(), line.version()), ([], 0))

    def test_eighty_versions(self):
        line = Line("table t (a int); step s = from t;")
        line.add("t", (0,))
        for number in range(1, 80):
            line.change(0, (number,))
        self.assertEqual((line.version(), line.since("s", (79,)), line.since("s", (3,))), (80, 80, 5))
        self.assertRaises(TooManyOperations, line.change, 0, (1,))
        # What is taken back does not count.
        for _ in range(5):
            line.back()
            line.drop()
            self.assertRaises(TooManyOperations, line.add_step, "step s = from t;")


if __name__ == "__main__":
    unittest.main()

"""The methods of a line, each over a small pipeline."""

import copy
import unittest

from lineworks.line import Line

SOURCE = """
    table t (a int, b truth);
    table u (a int);
    step s = from t anti join u on t.a = u.a;
    step r = from t where b select a union from u;
    step n = from t group with count as n;
"""
# Of a row that always comes out.
ZERO = "step z = from u group with count as n select n >= 0 as yes;"


def opened(more=""):
    line = Line(SOURCE + more)
    for table, row in (("t", (1, True)), ("t", (2, False)), ("u", (2,)), ("t", (2, False)), ("u", (3,))):
        line.add(table, row)
    return line


class Questions(unittest.TestCase):
    def test_rows(self):
        line = opened()
        self.assertEqual((line.rows("s"), line.rows("r"), line.rows("n")), ([(1, True)], [(1,), (2,), (3,)], [(2,)]))
        line.put(2, False)
        self.assertEqual((line.rows("s"), line.rows("r")), ([(1, True), (2, False)], [(1,), (3,)]))
        line.put(1, False)
        self.assertEqual(line.rows("s"), [(1, True), (2, False)])
        line.put(3, False)
        self.assertEqual((line.rows("s"), line.rows("n")), ([(1, True)], [(1,)]))

    def test_what_if(self):
        line = opened()
        self.assertEqual(line.what_if("s", []), ([], []))
        self.assertEqual(line.what_if("s", [2]), ([], [(2, False)]))
        self.assertEqual(line.what_if("s", [0, 2]), ([(1, True)], [(2, False)]))
        self.assertEqual(line.what_if("s", [2, 1, 3]), ([], []))
        line.put(2, False)
        self.assertEqual(line.what_if("s", [2]), ([(2, False)], []))
        self.assertEqual(line.what_if("n", [0]), ([(2,)], [(1,)]))

    def test_candidates(self):
        line = opened(ZERO)
        self.assertEqual(line.candidates("s"), [(1, True), (2, False)])
        self.assertEqual(line.candidates("n"), [(0,), (1,), (2,)])
        self.assertEqual((line.candidates("z"), line.sure("z"), line.questions("z")), ([(True,)], [(True,)], 0))
        self.assertEqual((line.sure("s"), line.sure("n")), ([], []))
        # t1 or t3, and not u2: four nodes. t0: one node.
        self.assertEqual(line.questions("s"), 5)
        self.assertEqual(line.questions("r"), 3)
        # Input rows that are not there now count as well.
        for entry in range(5):
            line.put(entry, False)
        self.assertEqual((line.candidates("s"), line.questions("s")), ([(1, True), (2, False)], 5))

    def test_condition(self):
        line = opened(ZERO)
        self.assertEqual(line.condition("s", (2, False)), ([(3, 0, 1), (2, 2, 0), (2, 1, 0), (1, 3, 4)], 5))
        self.assertEqual(line.condition("s", (2, True)), ([], 0))
        self.assertEqual(line.condition("z", (True,)), ([], 1))
        line.put(2, False)
        self.assertEqual(line.condition("r", (2,)), ([(2, 0, 1)], 2))

    def test_holds(self):
        line = opened(ZERO)
        for there, expected in (([], False), ([1], True), ([3, 0], True), ([1, 2], False), ([4, 3, 1], True)):
            self.assertIs(line.holds("s", (2, False), there), expected)
            self.assertIs(line.holds("s", (7, False), there), False)
            self.assertIs(line.holds("z", (True,), there), True)

    def test_depends(self):
        line = opened(ZERO)
        line.put(2, False)
        self.assertEqual(line.depends("s", (2, False)), [(1, True, False), (2, False, True), (3, True, False)])
        self.assertEqual(line.depends("n", (1,)), [(0, True, True), (1, True, True), (3, True, True)])
        self.assertEqual((line.depends("s", (2, None)), line.depends("z", (True,))), ([], []))

    def test_implies(self):
        line = opened(ZERO)
        self.assertIs(line.implies("s", (1, True), "r", (1,)), True)
        self.assertIs(line.implies("s", (2, False), "n", (0,)), False)
        self.assertIs(line.implies("r", (2,), "s", (2, False)), False)
        self.assertIs(line.implies("s", (1, None), "s", (2, False)), True)
        self.assertIs(line.implies("s", (1, True), "s", (1, None)), False)
        self.assertIs(line.implies("r", (3,), "z", (True,)), True)
        self.assertIs(line.implies("z", (True,), "r", (3,)), False)

    def test_ways(self):
        line = opened(ZERO)
        self.assertEqual([line.ways("s", row) for row in ((1, True), (2, False), (3, False))], [16, 12, 0])
        self.assertEqual(line.ways("z", (True,)), 32)
        line.put(0, False)
        self.assertEqual(line.ways("s", (1, True)), 16)
        line.remove(4)
        self.assertEqual((line.ways("s", (1, True)), line.ways("z", (True,))), (8, 16))

    def test_cases(self):
        line = opened(ZERO)
        self.assertEqual(line.cases("s", (2, False)), [([1], [2]), ([3], [2])])
        self.assertEqual((line.cases("s", (3, False)), line.cases("z", (True,))), ([], [([], [])]))

    def test_why(self):
        line = opened(ZERO)
        self.assertEqual(line.why("s", (1, True)), (True, [[0]]))
        self.assertEqual(line.why("s", (2, False)), (False, [[2]]))
        line.put(2, False)
        self.assertEqual(line.why("s", (2, False)), (True, [[1, 2], [2, 3]]))
        self.assertEqual(line.why("s", (5, None)), (False, [[]]))
        self.assertEqual(line.why("z", (True,)), (True, [[]]))

    def test_changes(self):
        line = opened(ZERO)
        self.assertEqual(line.changes("s", (2, False), []), [[2]])
        self.assertEqual(line.changes("s", (2, False), [2]), [])
        line.put(2, False)
        self.assertEqual(line.changes("s", (2, False), []), [[2], [1, 3]])
        self.assertEqual(line.changes("s", (2, False), [2]), [[1, 3]])
        line.put(2, True)
        line.put(1, False)
        line.put(3, False)
        self.assertEqual(line.changes("s", (2, False), []), [[1, 2], [2, 3]])
        self.assertEqual((line.changes("s", (9, None), []), line.changes("z", (True,), [])), ([], []))

    def test_cheapest(self):
        line = opened(ZERO)
        self.assertEqual(line.cheapest("s", (2, False), True, [1, 1, 5, 1, 1]), (5, [2]))
        self.assertEqual(line.cheapest("s", (2, False), False, [1, 1, 5, 1, 1]), (0, []))
        self.assertIsNone(line.cheapest("s", (2, False), True, [1, 1, None, 1, 1]))
        line.put(2, False)
        self.assertEqual(line.cheapest("s", (2, False), False, [1, 1, 5, 1, 1]), (2, [1, 3]))
        self.assertEqual(line.cheapest("s", (2, False), False, [1, 3, 5, 2, 1]), (5, [2]))
        self.assertIsNone(line.cheapest("s", (9, None), True, [0] * 5))
        self.assertEqual(line.cheapest("s", (9, None), False, [0] * 5), (0, []))
        self.assertIsNone(line.cheapest("z", (True,), False, [0] * 5))

    def test_costs_stand_in_the_order_of_entries(self):
        line = opened()
        line.remove(1)
        line.add("t", (8, True))
        self.assertEqual(line.cheapest("s", (8, True), False, [1, 2, 3, 4, 50]), (50, [5]))
        self.assertEqual(line.cheapest("s", (2, False), True, [1, 20, 3, 4, 50]), (20, [2]))
        self.assertEqual(line.chance("s", (8, True), [1, 2, 3, 4, 500]), (1, 2))

    def test_blame(self):
        line = opened(ZERO)
        self.assertEqual(line.blame("s", (2, False), []), [(2, [])])
        line.put(2, False)
        self.assertEqual(line.blame("s", (2, False), []), [(1, [3]), (2, []), (3, [1])])
        self.assertEqual(line.blame("s", (2, False), [3]), [(2, [])])
        self.assertEqual((line.blame("s", (9, None), []), line.blame("z", (True,), [])), ([], []))

    def test_shares(self):
        line = opened(ZERO)
        # Of the 6 orders, t1 and t3 each come first of both and before u2 in 2, where u2 then takes the row away.
        self.assertEqual(line.shares("s", (2, False)), [(1, 1, 3), (2, -2, 3), (3, 1, 3)])
        line.put(2, False)
        self.assertEqual(line.shares("s", (2, False)), [(1, 1, 2), (3, 1, 2)])
        self.assertEqual((line.shares("s", (9, None)), line.shares("z", (True,))), ([], []))

    def test_chances(self):
        line = opened(ZERO)
        self.assertEqual(line.chance("s", (2, False), [0, 500, 250, 500, 0]), (9, 16))
        self.assertEqual(line.given("s", (2, False), [100, 500, 250, 500, 1000]),
                         [(0, 1, 10), (1, 2, 3), (2, 0, 1), (3, 2, 3), (4, 1, 1)])
        # Whether it is there now says nothing.
        line.put(2, False)
        self.assertEqual(line.chance("s", (2, False), [0, 500, 250, 500, 0]), (9, 16))
        self.assertEqual(line.chance("s", (9, None), [1] * 5), (0, 1))
        self.assertIsNone(line.given("s", (9, None), [1] * 5))
        self.assertEqual(line.chance("z", (True,), [1] * 5), (1, 1))
        self.assertEqual(line.given("z", (True,), [1] * 5), [(entry, 1, 1000) for entry in range(5)])
        self.assertIsNone(line.given("s", (2, False), [0, 0, 0, 0, 0]))

    def test_outcomes(self):
        line = opened(ZERO)
        self.assertEqual(line.outcomes("s", (), [1] * 5), [((1, True), 0, []), ((2, False), 1, [2])])
        self.assertEqual(line.outcomes("s", (2,), [1] * 5), [((2, False), 1, [2])])
        self.assertEqual(line.outcomes("s", (2, False), [1, 1, None, 1, 1]), [])
        self.assertEqual(line.outcomes("s", (3,), [1] * 5), [])
        self.assertEqual(line.outcomes("n", (), [1, 2, 1, 3, None]), [((0,), 6, [0, 1, 3]), ((1,), 1, [0]), ((2,), 0, [])])
        self.assertEqual(line.outcomes("z", (True,), [None] * 5), [((True,), 0, [])])

    def test_none_of(self):
        line = opened(ZERO)
        self.assertEqual(line.none_of("s", (), [4] * 5), (4, [0]))
        self.assertEqual(line.none_of("s", (2,), [4] * 5), (0, []))
        self.assertEqual(line.none_of("r", (), [1] * 5), (3, [0, 2, 4]))
        self.assertIsNone(line.none_of("r", (), [1, 1, None, 1, 1]))
        self.assertIsNone(line.none_of("n", (), [0] * 5))
        self.assertIsNone(line.none_of("z", (True,), [0] * 5))

    def test_uses_and_falling(self):
        line = opened()
        self.assertEqual(line.uses("s"), (["t", "u"], []))
        self.assertEqual([line.falling(name) for name in ("s", "r", "n")], [False, True, False])
        line.add_step("step q = from r as x join s on x.a = s.a join r on true select x.a;")
        self.assertEqual((line.uses("q"), line.falling("q")), (([], ["s", "r"]), False))
        line.define("q", "from r union from r union from t select a")
        self.assertEqual((line.uses("q"), line.falling("q")), ((["t"], ["r"]), True))
        line.define("r", "from u intersect from t select a")
        self.assertEqual((line.uses("r"), line.falling("r"), line.falling("q")), ((["t", "u"], []), False, False))
        line.drop()
        line.add_step("step q = from t;")
        self.assertEqual((line.uses("q"), line.falling("q")), ((["t"], []), True))

    def test_down(self):
        line = opened()
        self.assertEqual(line.down("s", (1, True)), [("t", (1, True))])
        self.assertEqual(line.down("s", (2, False)), [("t", (2, False)), ("u", (2,))])
        self.assertEqual(line.down("n", (2,)), [("t", (1, True)), ("t", (2, False))])
        line.add_step("step q = from s union from t join r on t.a = r.a select t.a, b;")
        self.assertEqual(line.down("q", (2, False)), [("t", (2, False)), ("r", (2,))])
        # Only what is there now.
        line.put(2, False)
        self.assertEqual(line.down("s", (2, False)), [("t", (2, False))])
        self.assertEqual(line.down("q", (2, False)), [("s", (2, False))])
        line.put(1, False)
        self.assertEqual(line.down("s", (2, False)), [("t", (2, False))])
        line.put(3, False)
        self.assertEqual((line.down("s", (2, False)), line.down("s", (9, None))), ([], []))

    def test_origins(self):
        line = opened()
        expected = {"s": ((2, False), [1, 2, 3]), "r": ((2,), [2]), "n": ((2,), [0, 1, 3])}
        for _ in range(2):
            for name, (row, numbers) in expected.items():
                self.assertEqual(line.origins(name, row), numbers)
            # Whether they are there now says nothing.
            for entry in range(5):
                line.put(entry, False)
        self.assertEqual((line.origins("s", (9, None)), line.origins("n", (50,))), ([], [0, 1, 3]))
        line.add_step("step q = from s join r on s.a < r.a select s.a, r.a as x;")
        self.assertEqual(line.origins("q", (1, 3)), [0, 4])
        self.assertEqual(line.origins("q", (2, 3)), [1, 2, 3, 4])

    def test_results_are_new(self):
        line = opened(ZERO)
        row, costs = (2, False), [1] * 5
        for method, arguments in (
            ("tables", []), ("steps", []), ("entries", []), ("rows", ["s"]), ("what_if", ["s", [2]]), ("candidates", ["s"]),
            ("sure", ["z"]), ("condition", ["s", row]), ("depends", ["s", row]), ("cases", ["s", row]), ("why", ["s", row]),
            ("changes", ["s", row, [0, 0]]), ("cheapest", ["s", row, True, costs]), ("blame", ["s", row, [0]]),
            ("shares", ["s", row]), ("chance", ["s", row, costs]), ("given", ["s", row, costs]),
            ("outcomes", ["s", (2,), costs]), ("none_of", ["r", (), costs]), ("ran", []), ("compare", [0]),
            ("separate", [0, "s", row]), ("uses", ["s"]), ("down", ["s", row]), ("origins", ["s", row]),
        ):
            kept = copy.deepcopy(arguments)
            found = getattr(line, method)(*arguments)
            expected = copy.deepcopy(found)
            self.empty(found)
            self.assertEqual(getattr(line, method)(*arguments), expected, method)
            self.assertEqual(arguments, kept)

    def empty(self, value):
        if isinstance(value, (list, tuple)):
            for part in value:
                self.empty(part)
        if isinstance(value, list):
            value.clear()


class Versions(unittest.TestCase):
    def test_ran_and_version(self):
        line = Line(SOURCE)
        self.assertEqual((line.ran(), line.version()), (["s", "r", "n"], 0))
        line.add("u", (4,))
        self.assertEqual((line.ran(), line.version()), (["s", "r"], 1))
        line.add("t", (4, True))
        self.assertEqual((line.ran(), line.version()), (["s", "r", "n"], 2))
        line.put(1, False)
        self.assertEqual((line.ran(), line.version()), (["s", "r", "n"], 2))
        line.define("r", "from u")
        self.assertEqual((line.ran(), line.version()), (["r"], 3))
        line.change(1, (4, True))
        self.assertEqual((line.ran(), line.version()), ([], 4))
        line.add_step("step q = from r;")
        self.assertEqual((line.ran(), line.version()), (["q"], 5))
        line.drop()
        self.assertEqual((line.ran(), line.version()), ([], 6))

    def test_compare(self):
        line = Line("table t (a int, b truth); step s = from t; step r = from t where b select a;")
        line.add("t", (1, True))
        self.assertEqual(line.compare(0), [("s", [], [(1, True)], []), ("r", [], [(1,)], [])])
        self.assertEqual(line.compare(1), [("s", [], [], []), ("r", [], [], [])])
        line.add("t", (1, True))
        line.change(0, (2, False))
        self.assertEqual(line.compare(0), [("s", [], [(1, True), (2, False)], []), ("r", [], [(1,)], [])])
        self.assertEqual(line.compare(1), [("s", [], [(2, False)], [(1, True)]), ("r", [], [], [(1,)])])
        line.remove(1)
        self.assertEqual(line.compare(2), [("s", [(1, True)], [(2, False)], []), ("r", [(1,)], [], [])])
        # Whether input rows are there says nothing.
        line.put(0, False)
        self.assertEqual(line.compare(4), [("s", [], [], []), ("r", [], [], [])])

    def test_compare_with_other_steps(self):
        line = Line("table t (a int, b truth); step s = from t;")
        for row in ((1, True), (0, False), (5, None)):
            line.add("t", row)
        line.drop()
        self.assertEqual(line.compare(3), [("s", [(0, False), (1, True), (5, None)], [], [])])
        self.assertEqual(line.compare(0), [("s", [], [], [])])
        line.add_step("step r = from t select b as x;")
        line.add_step("step q = from t select a;")
        # There is a step with another name and other columns now.
        self.assertEqual(line.compare(3), [
            ("r", [(0, False), (1, True), (5, None)], [(None,), (False,), (True,)], []), ("q", [], [(0,), (1,), (5,)], []),
        ])
        self.assertEqual(line.compare(4)[0], ("r", [], [(None,), (False,), (True,)], []))
        version = line.version()
        line.drop()
        line.drop()
        line.add_step("step p = from t select a;")
        # The same numbers, shown by the columns of each version.
        found = line.compare(version)
        self.assertEqual(found, [("p", [(None,)], [(5,)], []), ("q", [(0,), (1,), (5,)], [], [])])
        line.change(2, (1, None))
        found = line.compare(version)
        self.assertEqual(found[0], ("p", [(None,)], [], [(1,)]))
        self.assertEqual([type(row[0]) for row in found[0][3]], [int])

    def test_changed_rows_are_shown_by_the_columns_of_now(self):
        line = Line("table t (a int, b truth); step s = from t select a;")
        line.add("t", (1, False))
        line.add("t", (0, None))
        line.drop()
        line.add_step("step r = from t select b;")
        # 0 was there with the second input row, and is there with the first one now.
        self.assertEqual(line.compare(2), [("r", [(1,)], [(None,)], [(False,)])])
        found = line.compare(2)[0]
        self.assertEqual((type(found[1][0][0]), type(found[3][0][0])), (int, bool))
        self.assertEqual(line.separate(2, "r", (False,)), [1])
        self.assertEqual(line.since("r", (False,)), 4)

    def test_equal(self):
        line = Line(SOURCE)
        line.add("t", (1, True))
        self.assertEqual([line.equal(version) for version in (0, 1)], [False, True])
        line.change(0, (4, True))
        line.change(0, (1, True))
        self.assertEqual([line.equal(version) for version in range(4)], [False, True, False, True])
        line.remove(0)
        self.assertEqual([line.equal(version) for version in range(5)], [True, False, False, False, True])
        # A step without rows is as good as none.
        line.drop()
        self.assertIs(line.equal(3), False)
        line.add_step("step q = from t;")
        line.drop()
        self.assertEqual([line.equal(version) for version in (5, 6, 7)], [True, True, True])

    def test_separate(self):
        line = opened()
        self.assertEqual(line.separate(0, "s", (2, False)), [3])
        self.assertEqual(line.separate(2, "s", (2, False)), [3])
        self.assertEqual(line.separate(3, "s", (2, False)), [3])
        self.assertIsNone(line.separate(4, "s", (2, False)))
        self.assertIsNone(line.separate(0, "s", (9, None)))
        line.remove(2)
        self.assertEqual(line.separate(5, "s", (2, False)), [2, 3])
        self.assertEqual(line.separate(0, "n", (0,)), [3])
        line.drop()
        line.add_step("step m = from t group with count as n;")
        self.assertEqual((line.separate(7, "m", (0,)), line.separate(6, "m", (0,))), ([], None))

    def test_since(self):
        line = opened()
        self.assertEqual([line.since("s", row) for row in ((1, True), (2, False), (9, None))], [1, 4, 0])
        self.assertEqual([line.since("r", (number,)) for number in (1, 2, 3)], [1, 3, 5])
        line.add_step("step q = from s;")
        self.assertEqual((line.since("q", (1, True)), line.since("q", (9, None))), (6, 0))
        line.define("s", "from t")
        self.assertEqual([line.since("s", row) for row in ((1, True), (2, False))], [1, 7])
        line.put(0, False)
        self.assertEqual(line.since("s", (1, True)), 1)


if __name__ == "__main__":
    unittest.main()

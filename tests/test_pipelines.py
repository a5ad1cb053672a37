"""Points 18 and 19: pipelines, the problems of items, and the editing of steps."""

import unittest

from support import SourceCase

from lineworks.pipelines import Pipeline, append_step, check_source, compile_source, define_step, drop_step

SOURCE = """
table t (a int, b text);
table u (a int);
step s = from t where a > 0;
step r = from s join u on s.a = u.a select b, u.a;
step q = from r semi join u on r.a = u.a;
"""

# A plan of 40 operations: each semi join has three.
FORTY = "from t" + "".join(f" semi join u as u{at} on true" for at in range(13))


def fields(pipeline):
    return pipeline.tables, pipeline.steps, pipeline.plans


class Compiling(SourceCase):
    def test_the_empty_pipeline(self):
        self.assertEqual(fields(compile_source(" # nothing")), ([], [], []))
        self.assertEqual(check_source(""), [])

    def test_fields(self):
        pipeline = compile_source(SOURCE)
        self.assertIs(type(pipeline), Pipeline)
        self.assertEqual(pipeline.tables, [("t", [("a", "int"), ("b", "text")]), ("u", [("a", "int")])])
        self.assertEqual(pipeline.steps, [
            ("s", [("a", "int"), ("b", "text")]), ("r", [("b", "text"), ("a", "int")]),
            ("q", [("b", "text"), ("a", "int")]),
        ])
        a, b, c = [("column", at) for at in range(3)]
        self.assertEqual(pipeline.plans, [
            [("table", 0), ("filter", ("less", ("constant", 0), a), 0)],
            [("step", 0), ("table", 1), ("join", ("equal", a, c), 0, 1), ("map", [b, c], 2)],
            [("step", 1), ("table", 1), ("anti", ("equal", b, c), 0, 1), ("minus", 0, 2)],
        ])
        self.assertEqual(check_source(SOURCE), [])

    def test_indexes(self):
        pipeline = compile_source(SOURCE)
        self.assertEqual([pipeline.table_index(name) for name in ("t", "u", "s", "x", "T")], [0, 1, None, None, None])
        self.assertEqual([pipeline.step_index(name) for name in ("s", "r", "q", "t", "x")], [0, 1, 2, None, None])

    def test_a_pipeline_from_its_parts(self):
        pipeline = Pipeline([("t", [("a", "int")])], [("s", [("a", "int")])], [[("table", 0)]])
        self.assertEqual(fields(pipeline), ([("t", [("a", "int")])], [("s", [("a", "int")])], [[("table", 0)]]))
        self.assertEqual((pipeline.table_index("t"), pipeline.step_index("s"), pipeline.step_index("t")), (0, 0, None))

    def test_a_step_names_tables_and_steps_before_it(self):
        pipeline = compile_source("table t (a int); step s = from t; table u (b int); step r = from u join s on a = b;")
        self.assertEqual(pipeline.plans[1][:2], [("table", 1), ("step", 0)])


class Faults(SourceCase):
    def faults(self, source, *faults):
        self.assertEqual(check_source(source), list(faults), source)
        if faults:
            self.refused(compile_source, source, *faults[0])
        else:
            compile_source(source)

    def fault_at(self, source, message):
        """The only fault of the source is at its mark `~`."""
        before = source[:source.index("~")].split("\n")
        self.faults(source.replace("~", ""), (len(before), len(before[-1]) + 1, message))

    def test_names_of_tables(self):
        self.fault_at("table t (a int);\n ~table t (b int);", "declared twice: t")
        self.fault_at("table u (a int); step t = from u;\n ~table t (b int);", "declared twice: t")

    def test_names_of_steps(self):
        self.fault_at("table t (a int); ~step t = from t;", "declared twice: t")
        self.fault_at("table t (a int); step s = from t; ~step s = from x;", "declared twice: s")

    def test_columns_of_tables(self):
        self.fault_at("~table t (a int, b int, a text, b int);", "declared twice: a")
        self.fault_at("~table t (a int, b int, b text, a int);", "declared twice: b")
        eight = ", ".join(f"c{at} int" for at in range(8))
        self.faults(f"table t ({eight});")
        self.fault_at(f"~table t ({eight}, d int);", "too many columns")
        self.fault_at(f"~table t ({eight}, c0 int);", "declared twice: c0")

    def test_the_number_of_tables(self):
        eight = "".join(f"table t{at} (a int);" for at in range(8))
        self.faults(eight)
        self.fault_at(eight + "~table u (a int);", "too many tables")
        self.fault_at(eight + "~table t3 (a int);", "declared twice: t3")
        self.fault_at(eight + "~table u (a int, a int);", "too many tables")

    def test_the_number_of_steps(self):
        sixteen = "table t (a int);" + "".join(f"step s{at} = from t;" for at in range(16))
        self.faults(sixteen)
        self.fault_at(sixteen + "~step r = from t;", "too many steps")
        self.fault_at(sixteen + "~step s9 = from t;", "declared twice: s9")
        self.fault_at(sixteen + "~step t = from t;", "declared twice: t")
        self.fault_at(sixteen + "~step r = from x;", "too many steps")

    def test_problems_of_queries(self):
        self.fault_at("~step s = from t;", "unknown table or step: t")
        self.fault_at("~step s = from s;", "unknown table or step: s")
        self.fault_at("table t (a int);\n\t~step s = from t where a;", "expected a truth value")
        self.fault_at("table t (a int); ~step s = from t join t as u on t.a = u.a;", "declared twice: a")
        self.faults("step s = from r; table t (a int); step r = from t;", (1, 1, "unknown table or step: r"))

    def test_the_size_of_plans(self):
        start = "table t (a int); table u (b int);"
        self.faults(f"{start} step s = {FORTY};")
        self.fault_at(f"{start} ~step s = {FORTY} where true;", "too large")
        self.fault_at(f"{start} ~step s = {FORTY} where x;", "unknown name: x")
        self.fault_at(f"{start} ~step s = {FORTY} join t as w on true;", "declared twice: a")

    def test_an_item_with_a_problem_declares_nothing(self):
        self.faults(
            "table t (a int, a int);\nstep s = from t;\n  step r = from s;\ntable t (b int); step s = from t where b;"
            "step s = from t;",
            (1, 1, "declared twice: a"), (2, 1, "unknown table or step: t"), (3, 3, "unknown table or step: s"),
            (4, 18, "expected a truth value"),
        )

    def test_items_with_problems_do_not_count(self):
        bad = "table x (a int, a int);"
        eight = "".join(f"table t{at} (a int);" for at in range(8))
        self.faults(bad + eight, (1, 1, "declared twice: a"))
        steps = "".join(f"step s{at} = from t0;" for at in range(16))
        self.faults("step x = from t0;" + eight + steps, (1, 1, "unknown table or step: t0"))
        self.faults("step t0 = from t0;" + eight, (1, 1, "unknown table or step: t0"))

    def test_a_second_declaration_leaves_the_first_one(self):
        pipeline_source = "table t (a int);table t (b int);step s = from t where a = 1;step r = from t where b = 1;"
        self.faults(pipeline_source, (1, 17, "declared twice: t"), (1, 61, "unknown name: b"))

    def test_the_error_of_reading_alone(self):
        self.faults("table t (a int, a int); step s = from x; step", (1, 46, "expected a name"))
        self.faults("table t (a int, a int);\n !", (2, 2, "unknown character"))
        self.faults("table t (a int, a int);\nstep s = from t where a + ;", (2, 27, "expected an expression"))


class Defining(SourceCase):
    def setUp(self):
        self.pipeline = compile_source(SOURCE)

    def tearDown(self):
        self.assertEqual(fields(self.pipeline), fields(compile_source(SOURCE)))

    def define(self, step):
        return lambda source: define_step(self.pipeline, step, source)

    def test_the_same_columns(self):
        made = define_step(self.pipeline, 1, "from u as x join t on x.a = t.a select b, t.a")
        self.assertIs(type(made), Pipeline)
        self.assertEqual((made.tables, made.steps), (self.pipeline.tables, self.pipeline.steps))
        self.assertEqual((made.plans[0], made.plans[2]), (self.pipeline.plans[0], self.pipeline.plans[2]))
        self.assertEqual(made.plans[1], [
            ("table", 1), ("table", 0), ("join", ("equal", ("column", 0), ("column", 1)), 0, 1),
            ("map", [("column", 2), ("column", 1)], 2),
        ])

    def test_tables_and_earlier_steps(self):
        self.assertEqual(define_step(self.pipeline, 2, "from r").plans[2], [("step", 1)])
        self.assertEqual(define_step(self.pipeline, 2, "from s select b, a").plans[2][0], ("step", 0))
        self.assertEqual(define_step(self.pipeline, 0, "from t").plans[0], [("table", 0)])

    def test_itself_and_later_steps(self):
        self.refused_at(self.define(0), " ~from s", "unknown table or step: s")
        self.refused_at(self.define(1), "\n~from s where a = 1 union from r", "unknown table or step: r")
        self.refused_at(self.define(1), "# r\n ~from q", "unknown table or step: q")
        self.refused_at(self.define(0), "~from q", "unknown table or step: q")

    def test_other_columns(self):
        for text in ("u", "t select a", "t select b, a", "t select a as b, b as a", "t select a, b as c",
                     "t select a, a as b", "t select b as a, b", "t select a, b, a as c", "t select b as b, a as a"):
            self.refused_at(self.define(0), f" \n  ~from {text}", "different columns")

    def test_problems_in_order(self):
        self.refused_at(self.define(0), "~from u where x", "unknown name: x")
        self.refused_at(self.define(0), "~from t join u on true", "declared twice: a")
        large = FORTY + " where true"
        self.refused_at(self.define(0), f"~{large}", "too large")
        self.refused_at(self.define(1), f"~{large}", "too large")
        self.refused_at(self.define(1), f"~{FORTY}", "different columns")
        self.refused_at(self.define(0), f"~{large} join u on true", "declared twice: a")
        self.assertEqual(len(define_step(self.pipeline, 0, FORTY).plans[0]), 40)

    def test_errors_of_reading(self):
        self.refused_at(self.define(0), "from x where ~", "expected an expression")
        self.refused_at(self.define(0), "from t~;", "expected the end")
        self.refused_at(self.define(0), "~step s = from t;", "expected from")
        self.refused_at(self.define(0), "from t where a = ~'", "unknown character")
        self.refused_at(self.define(0), "~", "expected from")


class Appending(SourceCase):
    def setUp(self):
        self.pipeline = compile_source(SOURCE)

    def tearDown(self):
        self.assertEqual(fields(self.pipeline), fields(compile_source(SOURCE)))

    def append(self, source):
        return append_step(self.pipeline, source)

    def test_a_step(self):
        made = self.append("step p = from q join t on q.a = t.a select q.a, t.a as x;")
        self.assertEqual(fields(made), fields(compile_source(
            SOURCE + "step p = from q join t on q.a = t.a select q.a, t.a as x;")))
        self.assertEqual((made.step_index("p"), self.pipeline.step_index("p")), (3, None))

    def test_a_table(self):
        self.refused_at(self.append, " ~table x (a int);", "expected step")
        self.refused_at(self.append, "\n~table t (a int, a int);", "expected step")

    def test_problems(self):
        self.refused_at(self.append, "~step t = from x;", "declared twice: t")
        self.refused_at(self.append, "# p\n ~step r = from t;", "declared twice: r")
        self.refused_at(self.append, " ~step p = from p;", "unknown table or step: p")
        self.refused_at(self.append, "~step p = from t where b;", "expected a truth value")
        self.refused_at(self.append, "~step p = from t join u on true;", "declared twice: a")
        self.assertEqual(len(self.append(f"step p = {FORTY};").plans[3]), 40)
        self.refused_at(self.append, f"~step p = {FORTY} where true;", "too large")

    def test_too_many_steps(self):
        pipeline = self.pipeline
        for at in range(13):
            pipeline = append_step(pipeline, f"step p{at} = from t;")
        self.assertEqual(len(pipeline.steps), 16)
        for text, message in (("step p = from t;", "too many steps"), ("step p = from x;", "too many steps"),
                              ("step p3 = from t;", "declared twice: p3"), ("table x (a int);", "expected step")):
            self.refused_at(lambda source: append_step(pipeline, source), f"~{text}", message)

    def test_errors_of_reading(self):
        self.refused_at(self.append, "~", "expected table or step")
        self.refused_at(self.append, "~from t", "expected table or step")
        self.refused_at(self.append, "step p = from t~", "expected ;")
        self.refused_at(self.append, "step p = from t; ~step r = from t;", "expected the end")
        self.refused_at(self.append, "table t (a int)~", "expected ;")
        self.refused_at(self.append, "table t (a int); ~;", "expected the end")

    def test_behind_an_empty_pipeline(self):
        empty = compile_source("table t (a int);")
        self.assertEqual(append_step(empty, "step s = from t;").plans, [[("table", 0)]])


class Dropping(unittest.TestCase):
    def test_the_last_step(self):
        pipeline = compile_source(SOURCE)
        made = drop_step(pipeline)
        self.assertIs(type(made), Pipeline)
        self.assertEqual(fields(made), (pipeline.tables, pipeline.steps[:2], pipeline.plans[:2]))
        self.assertEqual(fields(pipeline), fields(compile_source(SOURCE)))
        self.assertEqual(fields(drop_step(drop_step(made))), (pipeline.tables, [], []))

    def test_the_name_is_free_again(self):
        made = append_step(drop_step(compile_source(SOURCE)), "step q = from s;")
        self.assertEqual((made.step_index("q"), made.plans[2]), (2, [("step", 0)]))


if __name__ == "__main__":
    unittest.main()

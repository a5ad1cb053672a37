"""The names and arguments of the interface."""

import importlib
import inspect
import unittest

FUNCTIONS = {
    "tokens": ["tokens(source)", "place(source, offset)"],
    "parsing": ["parse_source(source)", "parse_query(source)", "parse_item(source)"],
    "printing": ["print_expression(expression)", "print_query(query)", "print_source(items)"],
    "kinds": ["compile_expression(columns, expression)"],
    "names": ["compile_query(seen, query)"],
    "pipelines": ["check_source(source)", "compile_source(source)", "define_step(pipeline, step, source)",
                  "append_step(pipeline, source)", "drop_step(pipeline)"],
    "values": ["value_key(value)", "row_key(row)", "evaluate(expression, row)", "is_true(value)"],
    "totals": ["total(form, rows)"],
    "queries": ["query_rows(plan, tables, steps)", "step_rows(plans, entries, present)"],
    "cases": ["cases(store, condition, *, most_cases=200, most_nodes=500)"],
    "reasons": ["reasons(store, condition, present, *, most=200)"],
    "cheapest": ["cheapest(store, condition, present, costs)"],
    "carrying": ["entry_candidates(store, entries, table)",
                 "candidates(store, plan, tables, steps, *, most_rows=500, most_nodes=500)",
                 "pipeline_candidates(store, plans, entries, tables, *, most_rows=500, most_nodes=500)",
                 "condition_of(candidates, row)"],
    "states": ["total_values(way, form, rows)"],
    "possible": ["possible_rows(plan, tables, steps, *, most=500)"],
    "deciding": ["deciding_rows(plan, tables, steps, row)"],
    "origins": ["origins(plans, entries, step, row)", "uses(plan)", "falling(plans)"],
    "changes": ["changes(store, condition, present, allowed, *, most=200)"],
    "blame": ["blame(store, condition, present, allowed)"],
    "shares": ["shares(store, condition, present)"],
    "chances": ["chance(store, condition, cases, *, of=1000)",
                "chances_given(store, condition, cases, entries, *, of=1000)"],
    "outcomes": ["outcomes(store, candidates, prefix, present, costs)",
                 "none_of(store, candidates, prefix, present, costs, *, most_nodes=500)"],
    "kept": ["open_version(store, plans, widths, *, most_rows=500, most_nodes=500)",
             "edit_version(store, version, edit, widths, *, most_rows=500, most_nodes=500)"],
    "versions": ["compare(old, new)", "are_equal(old, new)", "since(versions, step, row)",
                 "separate(store, old, new, step, row)"],
}
CLASSES = {
    ("pipelines", "Pipeline(tables, steps, plans)"): ["table_index(name)", "step_index(name)"],
    ("diagrams", "Diagrams()"): [
        "there(entry)", "conjunction(first, second)", "disjunction(first, second)", "negation(condition)",
        "differs(first, second)", "restrict(condition, entry, is_there)", "holds(condition, present)",
        "depends(condition)", "size(conditions)", "implies(first, second)", "helps(condition, entry)",
        "hurts(condition, entry)", "ways(condition, entries)", "first_set(condition)", "table(condition)",
    ],
    ("limits", "Way(store, most_rows, most_nodes)"): [],
    ("kept", "Version(plans, entries, next_entry, marks, ran)"): [],
    ("line", "Line(source, *, most_rows=200, most_nodes=200)"): [
        "add(table, row)", "remove(entry)", "change(entry, row)", "put(entry, there)", "define(step, text)",
        "add_step(text)", "drop()", "back()", "tables()", "steps()", "entries()", "rows(step)", "what_if(step, turned)",
        "candidates(step)", "sure(step)", "questions(step)", "condition(step, row)", "holds(step, row, there)",
        "depends(step, row)", "implies(step, row, other_step, other_row)", "ways(step, row)", "cases(step, row)",
        "why(step, row)", "changes(step, row, kept)", "cheapest(step, row, wanted, costs)", "blame(step, row, kept)",
        "shares(step, row)", "chance(step, row, chances)", "given(step, row, chances)", "outcomes(step, values, costs)",
        "none_of(step, values, costs)", "ran()", "version()", "compare(version)", "equal(version)",
        "separate(version, step, row)", "since(step, row)", "uses(step)", "falling(step)", "down(step, row)",
        "origins(step, row)",
    ],
}


def told(name, made):
    return f"{name}{inspect.signature(made)}"


class Interface(unittest.TestCase):
    def test_functions(self):
        for file, functions in FUNCTIONS.items():
            module = importlib.import_module(f"lineworks.{file}")
            for each in functions:
                name = each.split("(")[0]
                self.assertEqual(told(name, getattr(module, name)), each)
                self.assertEqual(getattr(module, name).__module__, module.__name__)

    def test_classes(self):
        for (file, head), methods in CLASSES.items():
            name = head.split("(")[0]
            made = getattr(importlib.import_module(f"lineworks.{file}"), name)
            self.assertEqual(told(name, made), head)
            self.assertEqual(made.__module__, f"lineworks.{file}")
            for each in methods:
                method = each.split("(")[0]
                # In the class itself, not in a base class.
                self.assertEqual(told(method, vars(made)[method]).replace("(self, ", "(").replace("(self)", "()"), each)


if __name__ == "__main__":
    unittest.main()

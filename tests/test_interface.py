"""The names and arguments of the interface, as far as it has landed."""

import importlib
import inspect
import unittest

FUNCTIONS = {
    "tokens": ["tokens(source)", "place(source, offset)"],
    "parsing": ["parse_source(source)", "parse_query(source)", "parse_item(source)"],
    "printing": ["print_expression(expression)", "print_query(query)", "print_source(items)"],
    "kinds": ["compile_expression(columns, expression)"],
    "names": ["compile_query(seen, query)"],
    "pipelines": ["check_source(source)", "compile_source(source)", "define_step(pipeline, step, source)",
                  "append_step(pipeline, source)", "drop_step(pipeline)"],
    "values": ["value_key(value)", "row_key(row)", "evaluate(expression, row)", "is_true(value)"],
    "totals": ["total(form, rows)"],
    "queries": ["query_rows(plan, tables, steps)", "step_rows(plans, entries, present)"],
    "cases": ["cases(store, condition, *, most_cases=200, most_nodes=500)"],
    "reasons": ["reasons(store, condition, present, *, most=200)"],
    "cheapest": ["cheapest(store, condition, present, costs)"],
    "carrying": ["entry_candidates(store, entries, table)",
                 "candidates(store, plan, tables, steps, *, most_rows=500, most_nodes=500)",
                 "pipeline_candidates(store, plans, entries, tables, *, most_rows=500, most_nodes=500)",
                 "condition_of(candidates, row)"],
    "states": ["total_values(way, form, rows)"],
    "possible": ["possible_rows(plan, tables, steps, *, most=500)"],
    "deciding": ["deciding_rows(plan, tables, steps, row)"],
    "origins": ["origins(plans, entries, step, row)", "uses(plan)", "falling(plans)"],
    "changes": ["changes(store, condition, present, allowed, *, most=200)"],
    "blame": ["blame(store, condition, present, allowed)"],
    "shares": ["shares(store, condition, present)"],
}
CLASSES = {
    ("pipelines", "Pipeline(tables, steps, plans)"): ["table_index(name)", "step_index(name)"],
    ("diagrams", "Diagrams()"): [
        "there(entry)", "conjunction(first, second)", "disjunction(first, second)", "negation(condition)",
        "differs(first, second)", "restrict(condition, entry, is_there)", "holds(condition, present)",
        "depends(condition)", "size(conditions)", "implies(first, second)", "helps(condition, entry)",
        "hurts(condition, entry)", "ways(condition, entries)", "first_set(condition)", "table(condition)",
    ],
    ("limits", "Way(store, most_rows, most_nodes)"): [],
}


def told(name, made):
    return f"{name}{inspect.signature(made)}"


class Interface(unittest.TestCase):
    def test_functions(self):
        for file, functions in FUNCTIONS.items():
            module = importlib.import_module(f"lineworks.{file}")
            for each in functions:
                name = each.split("(")[0]
                self.assertEqual(told(name, getattr(module, name)), each)
                self.assertEqual(getattr(module, name).__module__, module.__name__)

    def test_classes(self):
        for (file, head), methods in CLASSES.items():
            name = head.split("(")[0]
            made = getattr(importlib.import_module(f"lineworks.{file}"), name)
            self.assertEqual(told(name, made), head)
            self.assertEqual(made.__module__, f"lineworks.{file}")
            for each in methods:
                method = each.split("(")[0]
                # In the class itself, not in a base class.
                self.assertEqual(told(method, vars(made)[method]).replace("(self, ", "("), each)


if __name__ == "__main__":
    unittest.main()

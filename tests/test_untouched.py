"""Point 2: arguments are not modified, and lists that are returned are new."""

import copy
import random
import unittest

import trees

from lineworks.errors import SourceError
from lineworks.parsing import parse_item, parse_query, parse_source
from lineworks.printing import print_expression, print_query, print_source
from lineworks.tokens import tokens


def lists_in(value):
    """Returns all lists within a value, itself included."""
    if isinstance(value, (list, tuple)):
        inner = [found for part in value for found in lists_in(part)]
        return inner + [value] if isinstance(value, list) else inner
    return []


def empty(value):
    """Empties all lists within a value."""
    for found in lists_in(value):
        found.clear()


SOURCE = """
table t (a int, b text, c truth);
table u (a int);
step s = from t left join (from u union from u) as v on t.a = v.a where c group b with sum(t.a) as a;
step r = from s join u on s.a = u.a select b, u.a except from s;
"""
QUERY = "from (from t where c) as u semi join t on u.a = t.a group u.a as b with count as n select b, n"


class Stage1(unittest.TestCase):
    def test_results_are_new(self):
        for read, source in (
            (tokens, SOURCE), (parse_source, SOURCE), (parse_query, QUERY), (parse_item, "table t (a int);"),
            (parse_item, f"step s = {QUERY};"),
        ):
            first = read(source)
            kept = copy.deepcopy(first)
            empty(first)
            self.assertEqual(read(source), kept)

    def test_printing_modifies_nothing(self):
        source = random.Random(6)
        for _ in range(100):
            expression, query = trees.expression(source, 4), trees.query(source, 2)
            items = [trees.item(source), trees.item(source)]
            for write, tree in ((print_expression, expression), (print_query, query), (print_source, items)):
                kept = copy.deepcopy(tree)
                text = write(tree)
                self.assertEqual(tree, kept)
                self.assertEqual(write(tree), text)

    def test_an_error_changes_nothing(self):
        for read in (tokens, parse_source, parse_query, parse_item):
            for _ in range(2):
                with self.assertRaises(SourceError) as caught:
                    read("from t where 'a")
                self.assertEqual(caught.exception.column, 14)


if __name__ == "__main__":
    unittest.main()

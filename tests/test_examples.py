"""The examples of the interface and those of README.md."""

import ast
import pathlib
import re
import unittest

from lineworks import errors
from lineworks.errors import LineError

README = pathlib.Path(__file__).resolve().parent.parent / "README.md"
EXAMPLES = r'''
>>> from lineworks.tokens import tokens
>>> tokens("a <= 07 # end")
[('word', 'a', 0), ('sign', '<=', 2), ('number', 7, 5)]

>>> from lineworks.tokens import place
>>> place("a\nbc", 3)
(2, 2)

>>> from lineworks.parsing import parse_query
>>> parse_query("from t where a > 1")
[(None, (('named', 't', 't'), [('where', ('>', ('name', 'a'), ('number', 1)))]))]

>>> from lineworks.parsing import parse_item
>>> parse_item("step s = from t")
raises SourceError

>>> from lineworks.printing import print_source
>>> print_source([("step", "s", [(None, (("named", "t", "t"), [("where", ("=", ("name", "a"), ("number", 1)))]))])])
'step s =\n  from t\n  where a = 1;\n'

>>> from lineworks.names import compile_query
>>> from lineworks.parsing import parse_query
>>> compile_query([("t", ("table", 0), [("a", "int")])], parse_query("from t where a >= 2"))
([('table', 0), ('filter', ('not', ('less', ('column', 0), ('constant', 2))), 0)], [('a', 'int')])

>>> from lineworks.diagrams import Diagrams
>>> store = Diagrams()
>>> store.table(store.conjunction(store.there(5), store.negation(store.there(2))))
([(5, 0, 1), (2, 2, 0)], 3)

>>> from lineworks.line import Line
>>> line = Line("table t (a int); table u (b int); step s = from t anti join u on a = b;")
>>> line.add("t", (4,))
0
>>> line.add("u", (4,))
1
>>> line.rows("s")
[]
>>> line.condition("s", (4,))
([(1, 1, 0), (0, 0, 2)], 3)
>>> line.why("s", (4,))
(False, [[1]])
>>> line.put(1, False)
>>> line.rows("s")
[(4,)]
'''


def answer(source, names):
    """Returns what a line of an example prints."""
    node = ast.parse(source).body[0]
    try:
        if not isinstance(node, ast.Expr):
            exec(source, names)
            return ""
        value = eval(source, names)
    except LineError as error:
        return f"raises {type(error).__name__}"
    return "" if value is None else repr(value)


class Examples(unittest.TestCase):
    def test_the_interface(self):
        names = {}
        told = re.findall(r">>> (.*)\n((?:(?!>>>|\n).*\n)?)", EXAMPLES)
        self.assertEqual(len(told), 25)
        for source, expected in told:
            self.assertEqual(answer(source, names), expected.rstrip("\n"), source)

    def test_the_read_me(self):
        told = 0
        for block in re.findall(r"```python\n(.*?)```", README.read_text(), re.S):
            names = {}
            for node in ast.parse(block).body:
                source = ast.get_source_segment(block, node)
                # The comment behind an expression begins with its value, if it begins as values do.
                comment = re.search(r"  # ([0-9'\[(].*|True.*|False.*|None.*)$", block.split("\n")[node.end_lineno - 1])
                if isinstance(node, ast.Try) or "print(" in source:
                    continue
                found = answer(source, names)
                if comment and isinstance(node, ast.Expr):
                    told += 1
                    self.assertEqual(comment.group(1)[:len(found)], found, source)
        self.assertGreater(told, 50)


class Errors(unittest.TestCase):
    def test_each_error_is_a_line_error(self):
        for name, kind in vars(errors).items():
            if isinstance(kind, type):
                self.assertTrue(issubclass(kind, LineError) and issubclass(kind, ValueError), name)


if __name__ == "__main__":
    unittest.main()

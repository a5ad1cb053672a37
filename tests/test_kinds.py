"""Points 15, 16 and, for expressions, 20: kinds, problems and plain expressions."""

import unittest

from lineworks.errors import Problem
from lineworks.kinds import compile_expression
from lineworks.parsing import parse_query

COLUMNS = [
    ("t", "i", "int"), ("t", "s", "text"), ("t", "b", "truth"), ("u", "i", "text"), (None, "k", "int"),
    (None, "w", "text"), (None, "p", "truth"),
]
I, S, B, K, W, P = [("column", at) for at in (0, 1, 2, 4, 5, 6)]
NULL = ("constant", None)

EXPECTED = {"int": "expected an integer", "text": "expected a text", "truth": "expected a truth value"}
EXAMPLES = {"int": "k", "text": "w", "truth": "p"}


def compiled(text, columns=COLUMNS):
    tree = parse_query(f"from t where {text}")[0][1][1][0][1]
    return compile_expression(columns, tree)


def leaves(count):
    """Returns a low tree of the kind int with this many leaves: its size is 2 * count - 1."""
    if count == 1:
        return ("number", 1)
    half = count // 2
    return ("+", leaves(half), leaves(count - half))


class KindCase(unittest.TestCase):
    def refused(self, text, message):
        with self.assertRaises(Problem, msg=text) as caught:
            compiled(text)
        self.assertEqual(caught.exception.message, message, text)

    def kind(self, text, kind):
        self.assertEqual(compiled(text)[1], kind, text)

    def plain(self, text, plain):
        self.assertEqual(compiled(text)[0], plain, text)


class Kinds(KindCase):
    def test_leaves(self):
        for text, kind in (
            ("1", "int"), ("'a'", "text"), ("true", "truth"), ("false", "truth"), ("null", None), ("k", "int"),
            ("w", "text"), ("p", "truth"), ("t.i", "int"), ("u.i", "text"), ("s", "text"),
        ):
            self.kind(text, kind)

    def check(self, form, operands, result):
        """Each operand of the form has to have the kind that operands gives for it."""
        fitting = [EXAMPLES[kind] for kind in operands]
        self.kind(form.format(*fitting), result)
        self.kind(form.format(*["null"] * len(operands)), result)
        for at, expected in enumerate(operands):
            self.kind(form.format(*fitting[:at], "null", *fitting[at + 1:]), result)
            for kind in ("int", "text", "truth"):
                if kind != expected:
                    wrong = fitting[:at] + [EXAMPLES[kind]] + fitting[at + 1:]
                    self.refused(form.format(*wrong), EXPECTED[expected])

    def test_operators_with_one_kind(self):
        self.check("-{}", ["int"], "int")
        for word in ("+", "-", "*", "div", "mod"):
            self.check("{} " + word + " {}", ["int", "int"], "int")
        self.check("not {}", ["truth"], "truth")
        for word in ("and", "or"):
            self.check("{} " + word + " {}", ["truth", "truth"], "truth")
        self.check("length({})", ["text"], "int")
        self.check("starts({}, {})", ["text", "text"], "truth")

    def same(self, form, result):
        """Both operands of the form have to have the same kind. Result tells the kind of the form."""
        for kind, name in EXAMPLES.items():
            for first, second in ((name, name), ("null", name), (name, "null")):
                self.kind(form.format(first, second), result or kind)
            for other in EXAMPLES.values():
                if other != name:
                    self.refused(form.format(name, other), "different kinds")
        self.kind(form.format("null", "null"), result)

    def test_comparisons(self):
        for word in ("<", "<=", "=", "!=", ">=", ">"):
            self.same("{} " + word + " {}", "truth")

    def test_coalesce_and_if(self):
        self.same("coalesce({}, {})", None)
        self.same("if(p, {}, {})", None)
        self.same("if(null, {}, {})", None)

    def test_the_first_operand_of_if(self):
        for name in ("k", "w"):
            self.refused(f"if({name}, 1, 2)", "expected a truth value")
            self.refused(f"if({name}, 1, 'a')", "expected a truth value")

    def test_missing_takes_each_kind(self):
        for name in ("k", "w", "p", "null", "coalesce(null, null)"):
            self.kind(f"missing({name})", "truth")

    def test_what_has_no_kind_inside(self):
        self.kind("coalesce(null, null) + 1", "int")
        self.kind("length(if(p, null, null))", "int")
        self.kind("coalesce(if(p, null, 'a'), null)", "text")
        self.refused("coalesce(if(p, null, 'a'), 1)", "different kinds")


class Problems(KindCase):
    def test_unknown_names(self):
        self.refused("x", "unknown name: x")
        self.refused("t.x", "unknown name: t.x")
        self.refused("x.i", "unknown name: x.i")
        self.refused("t.k", "unknown name: t.k")
        self.refused("I", "unknown name: I")
        self.refused("t", "unknown name: t")

    def test_ambiguous_names(self):
        self.refused("i", "ambiguous name: i")
        twice = [("t", "a", "int"), ("t", "a", "text"), (None, "b", "int"), ("u", "b", "int")]
        for text in ("t.a", "a", "b"):
            with self.assertRaises(Problem) as caught:
                compiled(text, twice)
            self.assertEqual(caught.exception.message, f"ambiguous name: {text}")
        self.assertEqual(compiled("u.b", twice), (("column", 3), "int"))

    def test_names_with_and_without_sources(self):
        self.plain("t.i", I)
        self.plain("u.i", ("column", 3))
        self.plain("t.s", S)
        self.plain("s", S)
        self.plain("b", B)
        self.plain("k", K)

    def test_operands_before_the_operator(self):
        self.refused("w + x", "unknown name: x")
        self.refused("w and (k + i)", "ambiguous name: i")
        self.refused("-(not k)", "expected a truth value")
        self.refused("k = length(x)", "unknown name: x")
        self.refused("if(k, 1, x)", "unknown name: x")
        self.refused("if(k, x, 'a')", "unknown name: x")
        self.refused("coalesce(k, length(k))", "expected a text")
        self.refused("missing(-w)", "expected an integer")
        self.refused("starts(k, x)", "unknown name: x")

    def test_left_operands_before_right_ones(self):
        self.refused("x + y", "unknown name: x")
        self.refused("i + x", "ambiguous name: i")
        self.refused("(w + 1) < length(k)", "expected an integer")
        self.refused("length(k) < (w + 1)", "expected a text")
        self.refused("length(k) <= (w + 1)", "expected a text")
        self.refused("length(k) > (w + 1)", "expected a text")
        self.refused("if(x, y, z)", "unknown name: x")
        self.refused("if(p, y, z)", "unknown name: y")
        self.refused("coalesce(y, z)", "unknown name: y")
        self.refused("starts(k, p)", "expected a text")

    def refused_tree(self, tree, message):
        with self.assertRaises(Problem) as caught:
            compile_expression(COLUMNS, tree)
        self.assertEqual(caught.exception.message, message)

    def size(self, make, rest):
        """`make(e)` has a size of rest more than e."""
        fitting = 200 - rest
        even = ("negate", leaves(fitting // 2)) if fitting % 2 == 0 else leaves((fitting + 1) // 2)
        compile_expression(COLUMNS, make(even))
        self.refused_tree(make(("negate", even)), "too large")

    def test_sizes(self):
        one = ("number", 1)
        self.size(lambda e: e, 0)
        for leaf in (one, ("name", "k"), ("field", "t", "i"), ("null",)):
            self.size(lambda e: ("+", leaf, e), 2)
        for leaf in (("text", "a"), ("name", "w")):
            self.size(lambda e: ("<", ("length", leaf), e), 3)
        self.size(lambda e: ("and", ("truth", 1), ("=", one, e)), 4)
        self.size(lambda e: ("or", ("truth", 0), ("missing", e)), 3)
        self.size(lambda e: ("not", ("=", e, one)), 3)
        for word in ("-", "*", "div", "mod", "<", "=", ">"):
            self.size(lambda e: (word, e, one), 2)
            self.size(lambda e: (word, one, e), 2)
        for word in ("<=", "!=", ">="):
            self.size(lambda e: (word, e, one), 3)
            self.size(lambda e: (word, one, e), 3)
        self.size(lambda e: ("if", ("truth", 1), one, e), 3)
        self.size(lambda e: ("if", ("<", one, e), one, one), 5)
        self.size(lambda e: ("coalesce", one, e), 4)
        self.size(lambda e: ("starts", ("text", "a"), ("if", ("=", e, one), ("null",), ("null",))), 7)

    def test_the_first_operand_of_coalesce_counts_twice(self):
        one = ("number", 1)
        compile_expression(COLUMNS, ("negate", ("coalesce", leaves(49), one)))
        compile_expression(COLUMNS, ("coalesce", leaves(49), ("+", one, ("negate", one))))
        self.refused_tree(("coalesce", leaves(49), leaves(3)), "too large")
        self.refused_tree(("coalesce", leaves(50), one), "too large")

    def test_many_nested_coalesces(self):
        tree = ("name", "k")
        for _ in range(40):
            tree = ("coalesce", tree, ("null",))
        self.refused_tree(tree, "too large")

    def test_a_fault_inside_comes_before_too_large(self):
        big = leaves(150)
        self.refused_tree(big, "too large")
        self.refused_tree(("+", big, ("name", "x")), "unknown name: x")
        self.refused_tree(("and", ("=", big, big), ("name", "k")), "expected a truth value")
        self.refused_tree(("=", big, ("text", "a")), "different kinds")
        self.refused_tree(("not", ("negate", big)), "expected a truth value")

    def test_the_problem_is_its_text(self):
        with self.assertRaises(Problem) as caught:
            compiled("x")
        self.assertEqual(str(caught.exception), "unknown name: x")


class Plain(KindCase):
    def test_leaves(self):
        self.plain("7", ("constant", 7))
        self.plain("'a''b'", ("constant", "a'b"))
        self.plain("true", ("constant", 1))
        self.plain("false", ("constant", 0))
        self.plain("null", NULL)

    def test_arithmetic(self):
        self.plain("-k", ("negate", K))
        for word, plain in (("+", "add"), ("-", "subtract"), ("*", "multiply"), ("div", "divide"), ("mod", "remainder")):
            self.plain(f"t.i {word} k", (plain, I, K))

    def test_comparisons(self):
        self.plain("t.i < k", ("less", I, K))
        self.plain("t.i <= k", ("not", ("less", K, I)))
        self.plain("t.i = k", ("equal", I, K))
        self.plain("t.i != k", ("not", ("equal", I, K)))
        self.plain("t.i >= k", ("not", ("less", I, K)))
        self.plain("t.i > k", ("less", K, I))

    def test_truth_values(self):
        self.plain("b and p", ("and", B, P))
        self.plain("b or p", ("or", B, P))
        self.plain("not b", ("not", B))
        self.plain("missing(w)", ("missing", W))

    def test_functions(self):
        self.plain("length(w)", ("length", W))
        self.plain("starts(s, w)", ("starts", S, W))
        self.plain("coalesce(t.i, k)", ("choose", ("missing", I), K, I))
        self.plain("if(b, t.i, k)", ("choose", B, I, K))

    def test_inside_one_another(self):
        plain = ("choose", ("missing", ("negate", K)), ("choose", P, I, ("constant", 0)), ("negate", K))
        self.plain("coalesce(-k, if(p, t.i, 0))", plain)
        self.plain("not (k <= 1 or p)", ("not", ("or", ("not", ("less", ("constant", 1), K)), P)))


if __name__ == "__main__":
    unittest.main()

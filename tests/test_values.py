"""Points 21 and 22: the order of values and rows, and the values of expressions."""

import itertools
import unittest

from lineworks.values import evaluate, is_true, row_key, value_key

BOUND = 10 ** 15
ORDERED = [None, -BOUND - 1, -BOUND, -2, -1, 0, 1, 2, 9, 10, BOUND, "", " ", "-1", "1", "10", "9", "A", "a", "a ", "aa",
           "ab", "b"]


def value(word, *operands):
    """Returns the value of an expression over columns with these values."""
    return evaluate((word, *[("column", at) for at in range(len(operands))]), operands)


class Order(unittest.TestCase):
    def test_values(self):
        for first, second in itertools.product(range(len(ORDERED)), repeat=2):
            one, other = value_key(ORDERED[first]), value_key(ORDERED[second])
            self.assertEqual((one < other, one == other), (first < second, first == second))

    def test_keys_are_tuples(self):
        for each in ORDERED:
            self.assertIs(type(value_key(each)), tuple)
        self.assertIs(type(row_key((1, None, "a"))), tuple)
        self.assertIs(type(row_key(())), tuple)

    def test_rows(self):
        few = [None, 0, 7, "", "a"]
        rows = [()] + [(one,) for one in few] + list(itertools.product(few, repeat=2))
        expected = [()]
        for one in few:
            expected.append((one,))
            expected.extend([(one, other) for other in few])
        self.assertEqual(sorted(reversed(rows), key=row_key), expected)
        for one, other in itertools.product(range(len(expected)), repeat=2):
            keys = row_key(expected[one]), row_key(expected[other])
            self.assertEqual((keys[0] < keys[1], keys[0] == keys[1]), (one < other, one == other))

    def test_the_first_difference_decides(self):
        self.assertLess(row_key((1, "b", 9)), row_key((1, "c", 0)))
        self.assertLess(row_key((1, None, "z")), row_key((1, 0, "a")))
        self.assertLess(row_key((1, 10 ** 15)), row_key((1, "")))


class Truth(unittest.TestCase):
    def test_is_true(self):
        for each, answer in ((1, True), (2, True), (-1, True), (0, False), (None, False), ("", False), ("a", False),
                             ("1", False)):
            self.assertIs(is_true(each), answer)


class Arithmetic(unittest.TestCase):
    WORDS = ("add", "subtract", "multiply", "divide", "remainder")

    def test_columns_and_constants(self):
        self.assertEqual(evaluate(("column", 1), (4, "a", None)), "a")
        for each in (None, 7, -7, "", "a", BOUND + 1):
            self.assertEqual(evaluate(("constant", each), ()), each)
            self.assertEqual(evaluate(("column", 0), (each,)), each)

    def test_integers(self):
        for word, first, second, result in (
            ("add", 2, 3, 5), ("add", -2, 2, 0), ("subtract", 2, 3, -1), ("subtract", -2, -3, 1), ("multiply", -2, 3, -6),
            ("multiply", 0, BOUND, 0), ("divide", 7, 2, 3), ("divide", -7, 2, -4), ("divide", -1, 5, -1),
            ("divide", 6, 3, 2), ("divide", -6, 3, -2), ("divide", 0, 4, 0), ("divide", 7, 1, 7), ("remainder", 7, 2, 1),
            ("remainder", -7, 2, 1), ("remainder", -1, 5, 4), ("remainder", -6, 3, 0), ("remainder", 7, 1, 0),
            ("remainder", 3, 10, 3), ("remainder", -3, 10, 7), ("divide", 3, 10, 0), ("divide", -3, 10, -1),
        ):
            self.assertEqual(value(word, first, second), result, (word, first, second))
        for number in (-3, 0, 3, BOUND, -BOUND):
            self.assertEqual(value("negate", number), -number)

    def test_divisors_below_1(self):
        for word in ("divide", "remainder"):
            for first, second in itertools.product((7, 0, -7), (0, -1, -2, -BOUND)):
                self.assertIsNone(value(word, first, second))

    def test_what_is_no_integer(self):
        for word in self.WORDS:
            for other in (None, "", "7"):
                self.assertIsNone(value(word, other, 7))
                self.assertIsNone(value(word, 7, other))
                self.assertIsNone(value(word, other, other))
        for other in (None, "", "7"):
            self.assertIsNone(value("negate", other))

    def test_the_bound(self):
        for word, first, second, result in (
            ("add", BOUND - 1, 1, BOUND), ("add", BOUND, 1, None), ("add", -BOUND, -1, None),
            ("add", 1 - BOUND, -1, -BOUND), ("subtract", BOUND, -1, None), ("subtract", BOUND - 1, -1, BOUND),
            ("subtract", -BOUND, 1, None), ("subtract", 1 - BOUND, 1, -BOUND), ("multiply", 10 ** 8, 10 ** 7, BOUND),
            ("multiply", -(10 ** 8), 10 ** 7, -BOUND), ("multiply", 10 ** 8, 10 ** 8, None),
            ("multiply", -(10 ** 8), 10 ** 8, None), ("multiply", -(10 ** 8), -(10 ** 8), None),
            ("divide", BOUND, 1, BOUND), ("divide", -BOUND, 1, -BOUND), ("divide", BOUND + 1, 1, None),
            ("divide", -BOUND - 1, 1, None), ("divide", 10 ** 16, 10, BOUND), ("divide", -(10 ** 16) - 1, 10, None),
            ("remainder", BOUND, BOUND + 1, BOUND), ("remainder", BOUND + 1, BOUND + 2, None),
        ):
            self.assertEqual(value(word, first, second), result, (word, first, second))
        self.assertIsNone(value("negate", BOUND + 1))
        self.assertIsNone(value("negate", -BOUND - 1))

    def test_a_result_beyond_the_bound_on_the_way(self):
        beyond = ("add", ("constant", BOUND), ("constant", 1))
        self.assertIsNone(evaluate(("subtract", beyond, ("constant", 1)), ()))


class Comparisons(unittest.TestCase):
    def test_all_pairs(self):
        for first, second in itertools.product(range(1, len(ORDERED)), repeat=2):
            one, other = ORDERED[first], ORDERED[second]
            self.assertEqual(value("less", one, other), 1 if first < second else 0)
            self.assertEqual(value("equal", one, other), 1 if first == second else 0)

    def test_none(self):
        for word in ("less", "equal"):
            for other in ORDERED:
                self.assertIsNone(value(word, None, other))
                self.assertIsNone(value(word, other, None))

    def test_results_are_integers(self):
        for word, first, second in (("less", 1, 2), ("equal", 1, 1), ("equal", 1, "1"), ("starts", "a", "a"), ("and", 1, 1)):
            self.assertIs(type(value(word, first, second)), int)
        for word in ("not", "missing"):
            self.assertIs(type(value(word, 0)), int)
            self.assertIs(type(value(word, 5)), int)


class Logic(unittest.TestCase):
    # Each value with what it means: true, false or unknown.
    MEANINGS = [(1, 1), (2, 1), (-1, 1), (BOUND, 1), (0, 0), (None, None), ("", None), ("a", None), ("1", None), ("0", None)]

    def test_and_and_or(self):
        tables = {
            "and": {(1, 1): 1, (1, 0): 0, (0, 1): 0, (0, 0): 0, (1, None): None, (None, 1): None, (0, None): 0,
                    (None, 0): 0, (None, None): None},
            "or": {(1, 1): 1, (1, 0): 1, (0, 1): 1, (0, 0): 0, (1, None): 1, (None, 1): 1, (0, None): None,
                   (None, 0): None, (None, None): None},
        }
        for word, table in tables.items():
            for (one, first), (other, second) in itertools.product(self.MEANINGS, repeat=2):
                self.assertEqual(value(word, one, other), table[first, second], (word, one, other))

    def test_not(self):
        for one, meaning in self.MEANINGS:
            self.assertEqual(value("not", one), {1: 0, 0: 1, None: None}[meaning])

    def test_choose(self):
        for one, meaning in self.MEANINGS:
            for first, second in (("x", "y"), (None, 7), (0, None)):
                self.assertEqual(value("choose", one, first, second), first if meaning == 1 else second)

    def test_missing(self):
        self.assertEqual(value("missing", None), 1)
        for each in ORDERED[1:]:
            self.assertEqual(value("missing", each), 0)


class Texts(unittest.TestCase):
    def test_length(self):
        for text, count in (("", 0), ("a", 1), ("it's", 4), ("a" * 100, 100), (" \t\n", 3)):
            self.assertEqual(value("length", text), count)
        for other in (None, 0, 7, -BOUND):
            self.assertIsNone(value("length", other))

    def test_starts(self):
        for first, second, answer in (
            ("abc", "ab", 1), ("abc", "", 1), ("", "", 1), ("abc", "abc", 1), ("ab", "abc", 0), ("abc", "bc", 0),
            ("abc", "AB", 0), ("", "a", 0),
        ):
            self.assertEqual(value("starts", first, second), answer)
        for first, second in ((None, "a"), ("a", None), (None, None), (1, "1"), ("1", 1), (1, 1)):
            self.assertIsNone(value("starts", first, second))


class Nested(unittest.TestCase):
    def test_inside_one_another(self):
        a, b = ("column", 0), ("column", 1)
        tree = ("choose", ("missing", a), ("add", b, ("constant", 1)), ("negate", a))
        self.assertEqual(evaluate(tree, (None, 4)), 5)
        self.assertEqual(evaluate(tree, (3, 4)), -3)
        self.assertIsNone(evaluate(tree, (None, "x")))
        both = ("and", ("less", a, b), ("not", ("equal", ("length", ("column", 2)), ("constant", 0))))
        self.assertEqual(evaluate(both, (1, 2, "x")), 1)
        self.assertEqual(evaluate(both, (1, 2, "")), 0)
        self.assertEqual(evaluate(both, (2, 1, None)), 0)
        self.assertIsNone(evaluate(both, (1, 2, None)))


if __name__ == "__main__":
    unittest.main()

"""Point 23: totals."""

import unittest

from lineworks.totals import total

BOUND = 10 ** 15
A = ("column", 0)


def of(word, *values):
    """Returns the total over rows with these values."""
    return total((word, A), [(value, at) for at, value in enumerate(values)])


class Totals(unittest.TestCase):
    def test_no_rows(self):
        self.assertEqual(total(("count",), []), 0)
        self.assertEqual(of("distinct"), 0)
        for word in ("sum", "least", "greatest"):
            self.assertIsNone(of(word))

    def test_none_alone(self):
        self.assertEqual(total(("count",), [(None, 1), (None, 2)]), 2)
        self.assertEqual(of("distinct", None, None), 0)
        for word in ("sum", "least", "greatest"):
            self.assertIsNone(of(word, None, None))

    def test_count(self):
        self.assertEqual(total(("count",), [(1,), (2,), ("a",)]), 3)

    def test_distinct(self):
        self.assertEqual(of("distinct", 1, 2, 1), 2)
        self.assertEqual(of("distinct", None, 1, "1", 1, "", None), 3)
        self.assertEqual(of("distinct", 0, "", None), 2)

    def test_sum(self):
        self.assertEqual(of("sum", 1, 2, 2, -7), -2)
        self.assertEqual(of("sum", None, 4, "a", "5", 1), 5)
        self.assertEqual(of("sum", 1, -1), 0)
        self.assertEqual(of("sum", 0), 0)
        self.assertIsNone(of("sum", "a", "5", None))

    def test_a_sum_at_the_bound_and_beyond(self):
        self.assertEqual(of("sum", BOUND - 1, 1), BOUND)
        self.assertEqual(of("sum", 1 - BOUND, -1), -BOUND)
        self.assertIsNone(of("sum", BOUND, 1))
        self.assertIsNone(of("sum", -BOUND, -1))

    def test_a_part_of_a_sum_beyond_the_bound(self):
        self.assertEqual(of("sum", BOUND, BOUND, -BOUND), BOUND)
        self.assertEqual(of("sum", -BOUND, -5, 5), -BOUND)
        self.assertEqual(of("sum", BOUND, 1, -1), BOUND)

    def test_least_and_greatest(self):
        self.assertEqual((of("least", 3, 1, 2), of("greatest", 3, 1, 2)), (1, 3))
        self.assertEqual((of("least", "b", "a", "ab"), of("greatest", "b", "a", "ab")), ("a", "b"))
        self.assertEqual((of("least", None, 3, "", None), of("greatest", None, 3, "", None)), (3, ""))
        self.assertEqual((of("least", "a", None), of("greatest", None, -1)), ("a", -1))
        self.assertEqual((of("least", 10, 9), of("greatest", "10", "9")), (9, "9"))

    def test_expressions(self):
        rows = [(1, 5), (2, 6), (3, None)]
        plain = ("add", A, ("column", 1))
        self.assertEqual(total(("sum", plain), rows), 14)
        self.assertEqual(total(("least", plain), rows), 6)
        self.assertEqual(total(("greatest", plain), rows), 8)
        self.assertEqual(total(("distinct", ("remainder", A, ("constant", 2))), rows), 2)
        self.assertEqual(total(("distinct", ("constant", "a")), rows), 1)


if __name__ == "__main__":
    unittest.main()

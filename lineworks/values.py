"""Values, rows and the plain expressions over them."""

# The bound of the results of arithmetic: 10 ** 15.
BOUND = 1000000000000000


def value_key(value):
    """Returns a tuple that compares as the value does."""
    if value is None:
        return (0,)
    if isinstance(value, int):
        return 1, value
    return 2, value


def row_key(row):
    """Returns a tuple that compares as the row does."""
    return tuple([value_key(value) for value in row])


def is_true(value):
    """Returns whether a value is an integer other than 0."""
    return isinstance(value, int) and value != 0


def is_false(value):
    return isinstance(value, int) and value == 0


def bounded(number):
    """Returns the number, or None if it is beyond the bound."""
    return number if -BOUND <= number <= BOUND else None


def are_integers(first, second):
    return isinstance(first, int) and isinstance(second, int)


def negate(value):
    return bounded(-value) if isinstance(value, int) else None


def add(first, second):
    return bounded(first + second) if are_integers(first, second) else None


def subtract(first, second):
    return bounded(first - second) if are_integers(first, second) else None


def multiply(first, second):
    return bounded(first * second) if are_integers(first, second) else None


def divide(first, second):
    if not are_integers(first, second) or second < 1:
        return None
    return bounded(first // second)


def remainder(first, second):
    if not are_integers(first, second) or second < 1:
        return None
    return bounded(first % second)


def less(first, second):
    if first is None or second is None:
        return None
    return 1 if value_key(first) < value_key(second) else 0


def equal(first, second):
    if first is None or second is None:
        return None
    return 1 if value_key(first) == value_key(second) else 0


def conjunction(first, second):
    if is_false(first) or is_false(second):
        return 0
    return 1 if is_true(first) and is_true(second) else None


def disjunction(first, second):
    if is_true(first) or is_true(second):
        return 1
    return 0 if is_false(first) and is_false(second) else None


def negation(value):
    if is_false(value):
        return 1
    return 0 if is_true(value) else None


def missing(value):
    return 1 if value is None else 0


def choose(condition, first, second):
    return first if is_true(condition) else second


def length(value):
    return len(value) if isinstance(value, str) else None


def starts(first, second):
    if not isinstance(first, str) or not isinstance(second, str):
        return None
    return 1 if first.startswith(second) else 0


OPERATIONS = {
    "negate": negate,
    "add": add,
    "subtract": subtract,
    "multiply": multiply,
    "divide": divide,
    "remainder": remainder,
    "less": less,
    "equal": equal,
    "and": conjunction,
    "or": disjunction,
    "not": negation,
    "missing": missing,
    "choose": choose,
    "length": length,
    "starts": starts,
}


def evaluate(expression, row):
    """Returns the value of a plain expression for a row."""
    word = expression[0]
    if word == "column":
        return row[expression[1]]
    if word == "constant":
        return expression[1]
    operation = OPERATIONS[word]
    operands = [evaluate(part, row) for part in expression[1:]]
    return operation(*operands)

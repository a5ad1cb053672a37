"""A straight reading of points 37 to 39 over models of conditions. It writes down what is met, in order."""

import models

from lineworks.errors import TooManyQuestions, TooManyRows
from lineworks.values import evaluate, is_true, row_key, value_key

BOUND = 10 ** 15


def table_models(entries, table, numbers):
    """Returns the candidates of a table under models."""
    rows = sorted({row for _, at, row in entries if at == table}, key=row_key)
    return [(each, frozenset().union(*[models.there(number, numbers) for number, at, row in entries
                                       if at == table and row == each])) for each in rows]


def outcome(met, most_rows, most_nodes):
    """Returns the error that what is met leads to, or None."""
    for word, number in met:
        if word == "list" and number > most_rows:
            return TooManyRows
        if word == "condition" and number > most_nodes:
            return TooManyQuestions
    return None


def greatest(met, word):
    """Returns the greatest length of a list or the greatest size of a condition."""
    return max([number for each, number in met if each == word], default=0)


class Reading:
    """Conditions are models over the input rows with these numbers."""

    def __init__(self, numbers):
        self.numbers = numbers
        self.always = models.always(numbers)
        self.met = []

    def meet(self, model):
        self.met.append(("condition", models.size([model], self.numbers)))
        return model

    def join(self, conditions):
        there_is = models.never()
        for condition in reversed(conditions):
            there_is = self.meet(condition | there_is)
        return there_is

    def put(self, found, value, condition):
        """Puts a value into a list as points 37 and 39 say."""
        if not self.meet(condition):
            return
        for at, (other, old) in enumerate(found):
            if other == value:
                found[at] = (value, self.meet(condition | old))
                return
        self.met.append(("list", len(found) + 1))
        found.append((value, condition))

    def collect(self, rows):
        found = []
        for row, condition in reversed(rows):
            self.put(found, row, condition)
        return sorted(found, key=lambda each: row_key(each[0]))

    def candidates(self, plan, tables, steps):
        found = []
        for operation in plan:
            found.append(self.operation(operation, tables, steps, found))
        return found[-1]

    def operation(self, operation, tables, steps, found):
        word, *parts = operation
        if word in ("table", "step"):
            return (tables if word == "table" else steps)[parts[0]]
        if word == "filter":
            return [(row, condition) for row, condition in found[parts[1]] if is_true(evaluate(parts[0], row))]
        if word == "map":
            return self.collect([(tuple(evaluate(e, row) for e in parts[0]), condition)
                                 for row, condition in found[parts[1]]])
        if word == "join":
            return self.collect([(x + y, p & q) for x, p in found[parts[1]] for y, q in found[parts[2]]
                                 if is_true(evaluate(parts[0], x + y))])
        if word == "union":
            return self.collect(found[parts[0]] + found[parts[1]])
        if word == "minus":
            return self.minus(found[parts[0]], found[parts[1]])
        if word == "anti":
            return self.anti(parts[0], found[parts[1]], found[parts[2]])
        return self.group(parts[0], parts[1], found[parts[2]])

    def minus(self, first, second):
        made = []
        for row, condition in first:
            same = [other for other_row, other in second if other_row == row] or [models.never()]
            made.append((row, self.meet(condition - same[0])))
        return [(row, condition) for row, condition in made if condition]

    def anti(self, expression, first, second):
        made = []
        for row, condition in first:
            matching = [other for other_row, other in second if is_true(evaluate(expression, row + other_row))]
            joined = self.join(matching)
            made.append((row, self.meet(condition - joined)))
        return [(row, condition) for row, condition in made if condition]

    def group(self, keys, totals, members):
        made = []
        told = [tuple(evaluate(e, row) for e in keys) for row, _ in members]
        groups = [key for at, key in enumerate(told) if key not in told[:at]] if keys else [()]
        for key in groups:
            inside = [member for member, other in zip(members, told) if other == key]
            rows = [(key, self.join([condition for _, condition in inside]) if keys else self.always)]
            for form in totals:
                values = self.values(form, inside)
                pairs = []
                for row, condition in rows:
                    for value, other in values:
                        if self.meet(condition & other):
                            self.met.append(("list", len(pairs) + 1))
                            pairs.append((row + (value,), condition & other))
                rows = pairs
            made += rows
        return self.collect(made)

    def values(self, form, candidates):
        word = form[0]
        if word == "count":
            members = [(None, condition) for _, condition in candidates]
        else:
            members = [(evaluate(form[1], row), condition) for row, condition in candidates]
        if word == "distinct":
            known = [value for value, _ in members if value is not None]
            once = [value for at, value in enumerate(known) if value not in known[:at]]
            members = [(each, self.join([condition for value, condition in members if value == each]))
                       for each in once]
        states = [(0 if word in ("count", "distinct") else None, self.always)]
        for value, condition in reversed(members):
            new = []
            for state, reached in reversed(states):
                self.put(new, state, reached - condition)
                self.put(new, self.with_member(word, state, value), reached & condition)
            states = new
        found = []
        for state, condition in reversed(states):
            beyond = word == "sum" and state is not None and abs(state) > BOUND
            self.put(found, None if beyond else state, condition)
        return found

    def with_member(self, word, state, value):
        if word in ("count", "distinct"):
            return state + 1
        if value is None or word == "sum" and not isinstance(value, int):
            return state
        if state is None:
            return value
        if word == "sum":
            return state + value
        return sorted([state, value], key=value_key)[0 if word == "least" else 1]

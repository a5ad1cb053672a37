"""What is met while candidates are computed, and the limits that it is held against."""

from lineworks.diagrams import NEVER
from lineworks.errors import TooManyQuestions, TooManyRows


class Way:
    """The way to candidates: a store, and the limits of the conditions and lists that are met."""

    def __init__(self, store, most_rows, most_nodes):
        self.store = store
        self.most_rows = most_rows
        self.most_nodes = most_nodes
        # Conditions that kept the limit. So no diagram is counted twice.
        self.passed = {}

    def meet(self, condition):
        """Meets a condition and returns it."""
        if condition not in self.passed:
            if self.store.size([condition]) > self.most_nodes:
                raise TooManyQuestions("a condition is larger than it may be")
            self.passed[condition] = True
        return condition

    def meet_list(self, length):
        """Meets a list of this length."""
        if length > self.most_rows:
            raise TooManyRows("a list is longer than it may be")

    def both(self, first, second):
        """Meets and returns the condition that both hold."""
        return self.meet(self.store.conjunction(first, second))

    def either(self, first, second):
        """Meets and returns the condition that at least one of both holds."""
        return self.meet(self.store.disjunction(first, second))

    def but_not(self, first, second):
        """Meets and returns the condition that the first one holds and the second one does not."""
        return self.meet(self.store.conjunction(first, self.store.negation(second)))

    def joined(self, conditions):
        """Joins conditions: returns the condition that at least one of them holds."""
        found = NEVER
        for condition in reversed(conditions):
            found = self.either(condition, found)
        return found


class Gathering:
    """A list of rows or values with their conditions, each once. It is met whenever it becomes longer."""

    def __init__(self, way):
        self.way = way
        # What is in the list, in its order, and under which conditions.
        self.conditions = {}

    def put(self, element, condition):
        """Puts in an element that comes out where a condition holds, which is met."""
        if self.way.meet(condition) == NEVER:
            return
        if element in self.conditions:
            self.conditions[element] = self.way.either(condition, self.conditions[element])
        else:
            self.way.meet_list(len(self.conditions) + 1)
            self.conditions[element] = condition

    def listed(self):
        """Returns the list as (element, condition)."""
        return list(self.conditions.items())

"""Cases: which input rows are there and which are missing when a condition holds."""

from lineworks.diagrams import ALWAYS, NEVER
from lineworks.errors import TooManyCases


def cases(store, condition, *, most_cases=200, most_nodes=500):
    """Returns the cases of a condition as a list of (there, missing), two ascending lists."""
    found = Cover(store, most_cases, most_nodes).cover(condition, condition)
    return [(there, missing) for there, missing, _ in found]


class Cover:
    """Finds cases, and holds their number and the sizes of conditions against limits.
    Its cases are (there, missing, applies) with the condition that the case applies."""

    def __init__(self, store, most_cases, most_nodes):
        self.store = store
        self.most_cases = most_cases
        self.most_nodes = most_nodes
        # How many empty cases were found. Each one becomes one case of the whole cover.
        self.number = 0

    def cover(self, low, high):
        """Returns cases one of which applies wherever low holds, and none where high does not."""
        self.check_size(low)
        self.check_size(high)
        if low == NEVER:
            return []
        if high == ALWAYS:
            return [self.empty_case()]
        store = self.store
        entry = store.top([low, high])
        low_without, low_there = store.branches(low, entry)
        high_without, high_there = store.branches(high, entry)
        without = self.cover(self.but_not(low_without, high_there), high_without)
        there = self.cover(self.but_not(low_there, high_without), high_there)
        rest = store.disjunction(self.left_over(low_without, without), self.left_over(low_there, there))
        both = self.cover(rest, store.conjunction(high_without, high_there))
        found = [self.case_without(entry, case) for case in without]
        found.extend([self.case_with(entry, case) for case in there])
        return found + both

    def left_over(self, low, found):
        """Returns the condition that low holds and none of the cases that were found applies."""
        applied = NEVER
        for _, _, applies in reversed(found):
            applied = self.store.disjunction(applies, applied)
            self.check_size(applied)
        rest = self.but_not(low, applied)
        self.check_size(rest)
        return rest

    def but_not(self, first, second):
        """Returns the condition that the first one holds and the second one does not."""
        return self.store.conjunction(first, self.store.negation(second))

    def case_without(self, entry, case):
        """Returns a case that also says that an input row before all others of it is missing."""
        there, missing, applies = case
        return there, [entry] + missing, self.but_not(applies, self.store.there(entry))

    def case_with(self, entry, case):
        """Returns a case that also says that an input row before all others of it is there."""
        there, missing, applies = case
        return [entry] + there, missing, self.store.conjunction(applies, self.store.there(entry))

    def empty_case(self):
        self.number += 1
        if self.number > self.most_cases:
            raise TooManyCases("there are more cases than there may be")
        return [], [], ALWAYS

    def check_size(self, condition):
        if self.store.size([condition]) > self.most_nodes:
            raise TooManyCases("a condition is larger than it may be")

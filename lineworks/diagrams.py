"""Conditions: which choices of input rows something holds for, kept as diagrams in a store."""

NEVER = 0
ALWAYS = 1
# The condition of the first node. Those before it are leaves.
FIRST_NODE = 2


class Diagrams:
    """A store of conditions. Conditions that hold for the same choices are the same integer."""

    def __init__(self):
        # (entry, without, there) of each node, in the order of their conditions.
        self.kept = []
        # The conditions of the nodes. So no node is kept twice.
        self.numbers = {}
        # What combine returned, so that parts that several diagrams share are combined once.
        self.combined = {}

    def there(self, entry):
        """Returns the condition that an input row is there."""
        return self.node(entry, NEVER, ALWAYS)

    def conjunction(self, first, second):
        """Returns the condition that both hold."""
        return self.combine(first, second, NEVER)

    def disjunction(self, first, second):
        """Returns the condition that at least one of both holds."""
        return self.combine(first, ALWAYS, second)

    def negation(self, condition):
        """Returns the condition that another one does not hold."""
        return self.combine(condition, NEVER, ALWAYS)

    def differs(self, first, second):
        """Returns the condition that just one of both holds."""
        return self.combine(first, self.negation(second), second)

    def restrict(self, condition, entry, is_there):
        """Returns what a condition is once it is known whether an input row is there."""
        nodes, root = self.table(condition)
        known = [NEVER, ALWAYS]
        for asked, without, there in nodes:
            if asked != entry:
                known.append(self.node(asked, known[without], known[there]))
            else:
                known.append(known[there if is_there else without])
        return known[root]

    def holds(self, condition, present):
        """Returns whether a condition holds for the set of input rows in a list."""
        left = condition
        while left >= FIRST_NODE:
            entry, without, there = self.node_of(left)
            left = there if entry in present else without
        return left == ALWAYS

    def depends(self, condition):
        """Returns the input rows on which a condition depends, ascending."""
        nodes, _ = self.table(condition)
        return sorted({entry for entry, _, _ in nodes})

    def size(self, conditions):
        """Returns the number of different nodes of the diagrams of conditions."""
        nodes, _ = self.listed(conditions)
        return len(nodes)

    def implies(self, first, second):
        """Returns whether the second condition holds for all choices that the first one holds for."""
        return self.combine(first, second, ALWAYS) == ALWAYS

    def helps(self, condition, entry):
        """Returns whether for some choice a condition holds with an input row and not without it."""
        without = self.restrict(condition, entry, False)
        return not self.implies(self.restrict(condition, entry, True), without)

    def hurts(self, condition, entry):
        """Returns whether for some choice a condition holds without an input row and not with it."""
        without = self.restrict(condition, entry, False)
        return not self.implies(without, self.restrict(condition, entry, True))

    def ways(self, condition, entries):
        """Returns for how many subsets of the ascending list entries a condition holds."""
        nodes, root = self.table(condition)
        places = {entry: at for at, entry in enumerate(entries)}
        # For each diagram the place of its input row, and how many subsets of this one
        # and those behind it the diagram holds for.
        known = [(len(entries), 0), (len(entries), 1)]
        for entry, without, there in nodes:
            start = places[entry]
            parts = (known[without], known[there])
            known.append((start, sum([ways_from(start + 1, place, count) for place, count in parts])))
        place, count = known[root]
        return ways_from(0, place, count)

    def first_set(self, condition):
        """Returns the first choice for which a condition holds, ascending, or None."""
        if condition == NEVER:
            return None
        found = []
        left = condition
        while left >= FIRST_NODE:
            entry, without, there = self.node_of(left)
            # Each diagram but never holds for some choice.
            if without == NEVER:
                found.append(entry)
                left = there
            else:
                left = without
        return found

    def table(self, condition):
        """Returns the nodes of a condition, each behind those that it leads to, and its number."""
        nodes, numbers = self.listed([condition])
        return nodes, numbers[condition]

    def listed(self, conditions):
        """Returns the nodes of the diagrams of conditions, each behind those that it leads to,
        and the numbers by which these nodes tell their conditions."""
        nodes = []
        numbers = {NEVER: 0, ALWAYS: 1}
        left = list(conditions)
        while left:
            condition = left[-1]
            if condition in numbers:
                left.pop()
                continue
            entry, without, there = self.node_of(condition)
            # The last one comes first: all of the diagram without, then the diagram there.
            waiting = [part for part in (there, without) if part not in numbers]
            left.extend(waiting)
            if not waiting:
                numbers[condition] = len(numbers)
                nodes.append((entry, numbers[without], numbers[there]))
        return nodes, numbers

    def top(self, conditions):
        """Returns the least input row on which one of some conditions depends. They are not all leaves."""
        return min([self.node_of(condition)[0] for condition in conditions if condition >= FIRST_NODE])

    def branches(self, condition, entry):
        """Returns a condition restricted by an input row that is missing, and that is there.
        The condition depends on no input row before this one."""
        if condition >= FIRST_NODE:
            asked, without, there = self.node_of(condition)
            if asked == entry:
                return without, there
        return condition, condition

    def node_of(self, condition):
        """Returns the node at the top of a condition that is no leaf."""
        return self.kept[condition - FIRST_NODE]

    def node(self, entry, without, there):
        """Returns the condition that is one of two, depending on an input row before all of theirs."""
        if without == there:
            return without
        made = (entry, without, there)
        if made not in self.numbers:
            self.numbers[made] = len(self.kept) + FIRST_NODE
            self.kept.append(made)
        return self.numbers[made]

    def combine(self, condition, first, second):
        """Returns the condition that is the first one where a condition holds, and else the second one."""
        if condition == ALWAYS or first == second:
            return first
        if condition == NEVER:
            return second
        asked = (condition, first, second)
        if asked not in self.combined:
            entry = self.top(asked)
            without, there = self.branches(condition, entry)
            first_without, first_there = self.branches(first, entry)
            second_without, second_there = self.branches(second, entry)
            self.combined[asked] = self.node(
                entry,
                self.combine(without, first_without, second_without),
                self.combine(there, first_there, second_there),
            )
        return self.combined[asked]


def ways_from(start, place, count):
    """Returns how many subsets of what stands from start on there are, if there are count subsets
    of what stands from place on. What stands between start and place is free."""
    return count << (place - start)

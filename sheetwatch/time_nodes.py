"""The nodes of rules that speak of other points."""

from sheetwatch.logs import within
from sheetwatch.nodes import Pairs, rows_held
from sheetwatch.steps import combined, union_of
from sheetwatch.tables import empty


class BeforeNode:
    """The node of a before."""

    def __init__(self, rule, node):
        self.low, self.high = rule.core[1:3]
        self.columns = rule.free
        self.node = node
        # The tables that wait for the next point, and the times from the first point on whose table still counts.
        self.waiting = []
        self.times = []

    def add(self, point):
        """The list of the tables that are settled by a point."""
        tables = []
        if not self.times:
            tables.append(empty(self.columns))
        self.times.append(point[0])
        self.waiting.extend(self.node.add(point))
        while self.waiting and len(self.times) > 1:
            table = self.waiting.pop(0)
            time = self.times.pop(0)
            near = within(self.low, self.high, self.times[0] - time)
            tables.append(table if near else empty(self.columns))
        return tables

    def state(self):
        """The state, a value."""
        return (tuple(self.waiting), tuple(self.times), self.node.state())

    def lay_back(self, state):
        """Takes over a state."""
        waiting, times, node = state
        self.waiting = list(waiting)
        self.times = list(times)
        self.node.lay_back(node)

    def held(self):
        """The number of rows in all tables held."""
        return rows_held(self.waiting) + self.node.held()


class NextNode:
    """The node of a next."""

    def __init__(self, rule, node):
        self.low, self.high = rule.core[1:3]
        self.columns = rule.free
        self.node = node
        # Nothing comes before the first point, so its table does not count.
        self.skipped = 0
        self.times = []

    def add(self, point):
        """The list of the tables that are settled by a point."""
        self.times.append(point[0])
        found = self.node.add(point)
        tables = []
        for table in found[1 - self.skipped:]:
            time = self.times.pop(0)
            near = within(self.low, self.high, self.times[0] - time)
            tables.append(table if near else empty(self.columns))
        if found:
            self.skipped = 1
        return tables

    def state(self):
        """The state, a value."""
        return (self.skipped, tuple(self.times), self.node.state())

    def lay_back(self, state):
        """Takes over a state."""
        skipped, times, node = state
        self.skipped = skipped
        self.times = list(times)
        self.node.lay_back(node)

    def held(self):
        """The number of rows in all tables held."""
        return self.node.held()


class SinceNode:
    """The node of a since; how the first part's tables restrict rows is "join" or "minus"."""

    def __init__(self, rule, how, first, second):
        self.low, self.high = rule.core[1:3]
        self.columns = rule.free
        self.how = how
        self.pairs = Pairs(first, second)
        # The times of the points that no table was given for, and pairs of a time and what remains of its tables.
        self.times = []
        self.remains = []

    def add(self, point):
        """The list of the tables that are settled by a point."""
        self.times.append(point[0])
        tables = []
        for one, other in self.pairs.add(point):
            tables.append(self.step(self.times.pop(0), one, other))
        return tables

    def step(self, time, one, other):
        """The table at the next point, which has a time and these tables of the parts."""
        kept = []
        for start, table in self.remains:
            if self.high is None or time - start <= self.high:
                _add_rows(kept, start, combined(self.how, table, one))
        _add_rows(kept, time, other)
        old = [table for start, table in kept if time - start >= self.low]
        result = union_of(self.columns, old)
        if self.high is None and old:
            # These count at all points to come, whatever their times are.
            kept = [(kept[0][0], result), *kept[len(old):]]
        self.remains = kept
        return result

    def state(self):
        """The state, a value."""
        return (tuple(self.times), tuple(self.remains), self.pairs.state())

    def lay_back(self, state):
        """Takes over a state."""
        times, remains, pairs = state
        self.times = list(times)
        self.remains = list(remains)
        self.pairs.lay_back(pairs)

    def held(self):
        """The number of rows in all tables held."""
        return rows_held([table for _, table in self.remains]) + self.pairs.held()


class UntilNode:
    """The node of an until; how the first part's tables restrict rows is "join" or "minus"."""

    def __init__(self, rule, how, first, second):
        self.low, self.high = rule.core[1:3]
        self.columns = rule.free
        self.how = how
        # The tables of both parts and the times, all from the first point on that no table was given for.
        self.pairs = Pairs(first, second)
        self.times = []

    def add(self, point):
        """The list of the tables that are settled by a point."""
        self.times.append(point[0])
        self.pairs.take_point(point)
        tables = []
        needed = self.needed()
        while needed is not None and needed <= self.pairs.many():
            tables.append(self.next_table(needed))
            self.pairs.drop(1)
            del self.times[0]
            needed = self.needed()
        return tables

    def needed(self):
        """The number of points that tell the next table; None if there may be more to come."""
        many = 0
        while many < len(self.times) and self.times[many] - self.times[0] <= self.high:
            many += 1
        return many if many < len(self.times) else None

    def next_table(self, needed):
        """The table at the first point that none was given for, told by so many points."""
        result = empty(self.columns)
        for at in reversed(range(needed)):
            tables = [combined(self.how, result, self.pairs.ones[at])]
            if self.times[at] - self.times[0] >= self.low:
                tables.append(self.pairs.others[at])
            result = union_of(self.columns, tables)
        return result

    def state(self):
        """The state, a value."""
        return (tuple(self.times), self.pairs.state())

    def lay_back(self, state):
        """Takes over a state."""
        times, pairs = state
        self.times = list(times)
        self.pairs.lay_back(pairs)

    def held(self):
        """The number of rows in all tables held."""
        return self.pairs.held()


def _add_rows(kept, time, table):
    """Adds a table to those of its time, which come last; tables without rows are left out."""
    if not table[1]:
        return
    if kept and kept[-1][0] == time:
        _, last = kept.pop()
        table = union_of(last[0], [last, table])
    kept.append((time, table))

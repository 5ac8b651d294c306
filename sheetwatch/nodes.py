"""The nodes of rules that speak of one point, and what two nodes have in common that are parts of one."""

from sheetwatch.steps import combined, table_of_point, table_over


class PointNode:
    """The node of a rule whose table a point alone tells."""

    def __init__(self, core):
        self.core = core

    def add(self, point):
        """The list of the tables that are settled by a point."""
        return [table_of_point(self.core, point)]

    def state(self):
        """The state, a value."""
        return None

    def lay_back(self, state):
        """Takes over a state."""

    def held(self):
        """The number of rows in all tables held."""
        return 0


class OverNode:
    """The node of a rule whose tables are made, one by one, of those of one other rule."""

    def __init__(self, how, core, node):
        self.how = how
        self.core = core
        self.node = node

    def add(self, point):
        """The list of the tables that are settled by a point."""
        tables = []
        for table in self.node.add(point):
            tables.append(table_over(self.how, self.core, table))
        return tables

    def state(self):
        """The state, a value."""
        return self.node.state()

    def lay_back(self, state):
        """Takes over a state."""
        self.node.lay_back(state)

    def held(self):
        """The number of rows in all tables held."""
        return self.node.held()


class PairNode:
    """The node of an and or an or, whose tables are made of those of two rules."""

    def __init__(self, how, first, second):
        self.how = how
        self.pairs = Pairs(first, second)

    def add(self, point):
        """The list of the tables that are settled by a point."""
        return [combined(self.how, one, other) for one, other in self.pairs.add(point)]

    def state(self):
        """The state, a value."""
        return self.pairs.state()

    def lay_back(self, state):
        """Takes over a state."""
        self.pairs.lay_back(state)

    def held(self):
        """The number of rows in all tables held."""
        return self.pairs.held()


class Pairs:
    """Two nodes, and their tables that wait, both from the same point on."""

    def __init__(self, first, second):
        self.first = first
        self.second = second
        self.ones = []
        self.others = []

    def add(self, point):
        """The list of the pairs of tables of which both are there with a point; they wait no longer."""
        self.take_point(point)
        return self.drop(self.many())

    def take_point(self, point):
        """Lets the nodes take a point; all their tables wait."""
        self.ones.extend(self.first.add(point))
        self.others.extend(self.second.add(point))

    def many(self):
        """The number of the pairs of tables that wait."""
        return min(len(self.ones), len(self.others))

    def drop(self, many):
        """Takes away the first pairs of tables, so many, and returns the list of them."""
        pairs = list(zip(self.ones[:many], self.others[:many]))
        del self.ones[:many]
        del self.others[:many]
        return pairs

    def state(self):
        """The state, a value."""
        return (tuple(self.ones), tuple(self.others), self.first.state(), self.second.state())

    def lay_back(self, state):
        """Takes over a state."""
        ones, others, first, second = state
        self.ones = list(ones)
        self.others = list(others)
        self.first.lay_back(first)
        self.second.lay_back(second)

    def held(self):
        """The number of rows in all tables held."""
        return rows_held(self.ones) + rows_held(self.others) + self.first.held() + self.second.held()


def rows_held(tables):
    """The number of rows in some tables."""
    return sum([len(table[1]) for table in tables])

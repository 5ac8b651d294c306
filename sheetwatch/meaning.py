"""The plain meaning of core rules that can be watched: their tables at the points of a log."""

from sheetwatch.judge import Judged
from sheetwatch.logs import within
from sheetwatch.steps import combined, table_of_point, table_over, union_of
from sheetwatch.tables import empty


def table_at(core, log, i):
    """The table of a core rule that can be watched at the point i of a log."""
    return RuleInLog(Judged(core), log).table(i)


class RuleInLog:
    """A rule that was judged, with its parts, and its tables at the points of a log as far as they were asked for."""

    def __init__(self, rule, log):
        self.rule = rule
        self.core = rule.core
        self.free = rule.free
        self.log = log
        self.parts = []
        for part in rule.parts:
            self.parts.append(RuleInLog(part, log))
        self.tables = {}

    def table(self, i):
        """The table at a point."""
        if i not in self.tables:
            self.tables[i] = self.find_table(i)
        return self.tables[i]

    def find_table(self, i):
        """The table at a point, made of the parts' tables."""
        word = self.core[0]
        if word in ("event", "compare", "true"):
            return table_of_point(self.core, self.log[i])
        if word == "and":
            return self.table_of_and(i)
        if word == "or":
            return combined("union", self.parts[0].table(i), self.parts[1].table(i))
        if word in ("before", "next"):
            other = neighbor_in_limits(self.core, self.log, i)
            return empty(self.free) if other is None else self.parts[0].table(other)
        if word in ("since", "until"):
            return self.table_of_span(i)
        return table_over(word, self.core, self.parts[0].table(i))

    def table_of_and(self, i):
        """The table of an and at a point."""
        base, other = self.rule.base_and_other(self.parts)
        table = base.table(i)
        if self.rule.how == "fitted":
            return table_over("fitted", other.core, table)
        if self.rule.how == "minus":
            other = other.parts[0]
        return combined(self.rule.how, table, other.table(i))

    def table_of_span(self, i):
        """The table of a since or an until at a point: from the furthest point on, what remains of the second part."""
        first, second = self.parts
        how = "join"
        if first.core[0] == "not":
            how = "minus"
            first = first.parts[0]
        result = empty(self.free)
        for j in reversed(points_in_span(self.core, self.log, i)):
            tables = []
            if result[1]:
                tables.append(combined(how, result, first.table(j)))
            if in_limits(self.core, self.log, i, j):
                tables.append(second.table(j))
            result = union_of(self.free, tables)
        return result


def in_limits(core, log, i, j):
    """Whether the times of two points are apart within the limits of a core rule."""
    return within(core[1], core[2], abs(log[i][0] - log[j][0]))


def neighbor_in_limits(core, log, i):
    """The point before or behind i that a before or a next speaks of; None if there is none within the limits."""
    j = i - 1 if core[0] == "before" else i + 1
    if 0 <= j < len(log) and in_limits(core, log, i, j):
        return j
    return None


def points_in_span(core, log, i):
    """The list of the points from i on, back for a since and ahead for an until, up to the high limit."""
    points = list(range(i, -1, -1)) if core[0] == "since" else list(range(i, len(log)))
    high = core[2]
    return [j for j in points if high is None or abs(log[i][0] - log[j][0]) <= high]

"""What core rules mean, when they are settled and what nodes hold, word by word as the document says it: for tests."""

import itertools

from sheetwatch.core import free_names
from sheetwatch.judge import and_parts
from sheetwatch.meaning import table_at
from tests.meanings import value

FOLDS = {"count": len, "sum": sum, "least": min, "most": max}


def near(low, high, log, i, j):
    apart = abs(log[i][0] - log[j][0])
    return apart >= low and (high is None or apart <= high)


class PlainMeaning:
    """Point 4.4, where names that begin with n or w have the values of two lists."""

    def __init__(self, log, numbers, words):
        self.log = log
        self.domains = {"n": numbers, "w": words}
        self.found = {}
        self.rules = []

    def choices(self, names):
        for chosen in itertools.product(*[self.domains[name[0]] for name in names]):
            yield dict(zip(names, chosen))

    def holds(self, core, i, values):
        key = (id(core), i, tuple([values[name] for name in free_names(core)]))
        if key not in self.found:
            self.rules.append(core)
            self.found[key] = self.find(core, i, values)
        return self.found[key]

    def find(self, core, i, values):
        word, rest = core[0], core[1:]
        if word == "event":
            row = tuple([value(basic, values) for basic in rest[1]])
            return row in dict(self.log[i][1]).get(rest[0], ())
        if word == "compare":
            a, b = [value(term, values) for term in rest[1:]]
            return {"=": a == b, "<": rest[0] != "=" and a < b, "<=": rest[0] != "=" and a <= b}[rest[0]]
        if word == "true":
            return True
        if word == "not":
            return not self.holds(rest[0], i, values)
        if word == "and":
            return self.holds(rest[0], i, values) and self.holds(rest[1], i, values)
        if word == "or":
            return self.holds(rest[0], i, values) or self.holds(rest[1], i, values)
        if word == "some":
            return any(self.holds(rest[1], i, {**values, **more}) for more in self.choices((rest[0],)))
        if word == "group":
            return self.group(rest, i, values)
        return self.over_time(word, *rest[:2], rest[2:], i, values)

    def group(self, rest, i, values):
        x, function, y, names, part = rest
        bound = [name for name in free_names(part) if name not in names]
        found = [{**values, **more} for more in self.choices(bound) if self.holds(part, i, {**values, **more})]
        return bool(found) and values[x] == FOLDS[function]([one.get(y, 1) for one in found])

    def over_time(self, word, low, high, parts, i, values):
        if word in ("before", "next"):
            j = i - 1 if word == "before" else i + 1
            in_log = 0 <= j < len(self.log) and near(low, high, self.log, i, j)
            return in_log and self.holds(parts[0], j, values)
        first, second = parts
        for j in range(i + 1) if word == "since" else range(i, len(self.log)):
            between = range(j + 1, i + 1) if word == "since" else range(i, j)
            if near(low, high, self.log, i, j) and self.holds(second, j, values):
                if all(self.holds(first, k, values) for k in between):
                    return True
        return False


def parts_of(core):
    if core[0] in ("event", "compare", "true"):
        return ()
    if core[0] in ("some", "group"):
        return core[-1:]
    return core[3:] if core[0] in ("before", "next", "since", "until") else core[1:]


def is_settled(core, times, i):
    """Point 5.6."""
    word, parts = core[0], parts_of(core)
    if word == "next":
        return i + 1 < len(times) and is_settled(parts[0], times, i + 1)
    if word == "until":
        if i >= len(times) or times[-1] <= times[i] + core[2]:
            return False
        points = [j for j in range(i, len(times)) if times[j] <= times[i] + core[2]]
        return all(is_settled(part, times, j) for part in parts for j in points)
    if i >= len(times):
        return False
    if word == "before":
        return i == 0 or is_settled(parts[0], times, i - 1)
    return all(is_settled(part, times, i) for part in parts)


def settled_points(core, times):
    return len([i for i in range(len(times)) if is_settled(core, times, i)])


def rows_held(core, log):
    """Points 6.2 and 6.3: the number of rows that the node of a core rule holds behind the last point of a log."""
    word, parts = core[0], parts_of(core)
    times = [time for time, _ in log]
    if word == "and":
        how, base, other = and_parts(core)
        if how == "fit":
            if other[0] == "compare" or other[1][0] == "compare":
                return rows_held(base, log)
            other = other[1]
        parts = (base, other)
    if word in ("since", "until") and parts[0][0] == "not":
        parts = (parts[0][1], parts[1])
    held = sum(rows_held(part, log) for part in parts)
    counts = [settled_points(part, times) for part in parts]
    if word in ("and", "or", "since"):
        held += rows_from(parts, counts, min(counts), log)
    if word == "until":
        held += rows_from(parts, counts, settled_points(core, times), log)
    if word == "before" and counts[0] == len(log) > 0:
        held += rows_at(parts[0], log, len(log) - 1)
    if word == "since" and min(counts) > 0:
        held += rows_of_since(core, log, min(counts) - 1)
    return held


def rows_at(core, log, i):
    return len(table_at(core, log, i)[1])


def rows_from(parts, counts, start, log):
    return sum(rows_at(part, log, i) for part, count in zip(parts, counts) for i in range(start, count))


def rows_of_since(core, log, last):
    _, low, high, first, second = core
    remains = {}
    for j in range(last + 1):
        apart = log[last][0] - log[j][0]
        if high is not None and apart > high:
            continue
        table = table_at(second, log, j)
        rows = [dict(zip(table[0], row)) for row in table[1]]
        for k in range(j + 1, last + 1):
            rows = [row for row in rows if passes(row, first, log, k)]
        own = "old" if high is None and apart >= low else log[j][0]
        for row in rows:
            remains.setdefault(own, set()).add(tuple(row.values()))
    return sum(len(rows) for rows in remains.values())


def passes(row, core, log, k):
    kept = core[0] != "not"
    columns, rows = table_at(core if kept else core[1], log, k)
    return (tuple([row[column] for column in columns]) in rows) == kept

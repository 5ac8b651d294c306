"""Rules and logs at random, and what rules and cores mean there if there are few values: for the tests of cores."""

import itertools

from sheetwatch.names import free_in

DOMAIN = (0, 1, 2)
LIMITS = ((0, None), (0, 1), (1, None), (1, 2))
PREFIXES = ("before", "next", "once", "held", "soon", "kept")
FORMS = ("p", "q", "def", "not", "some", "all", "and", "or", "implies", "since", "until", "group", "group", *PREFIXES)


class RandomRules:
    """Makes rules over some names, the events p and q and defs, a dict from names to pairs (params, rule)."""

    def __init__(self, source, names, defs):
        self.source = source
        self.names = names
        self.defs = defs

    def basics(self, count):
        return tuple([self.basic() for _ in range(count)])

    def basic(self):
        if self.names and self.source.random() < 0.8:
            return ("name", self.source.choice(self.names))
        return ("num", self.source.choice(DOMAIN))

    def term(self):
        if self.source.random() < 0.7:
            return self.basic()
        return (self.source.choice(("plus", "less")), *self.basics(2))

    def rule(self, depth):
        form = self.source.choice(FORMS if depth > 0 else ("p", "q", "def", "compare", "true", "false"))
        if form == "def":
            name = self.source.choice(sorted(self.defs))
            return ("call", name, self.basics(len(self.defs[name][0])))
        if form in ("p", "q"):
            return ("call", form, self.basics(1 if form == "p" else 2))
        if form == "compare":
            return ("compare", self.source.choice(("=", "<", "<=")), self.term(), self.term())
        if form == "group":
            return self.group(self.rule(depth - 1))
        if form in ("some", "all"):
            return (form, tuple(self.source.sample("xyz", self.source.randrange(1, 3))), self.rule(depth - 1))
        limits = self.source.choice(LIMITS) if form in PREFIXES or form in ("since", "until") else ()
        count = {"true": 0, "false": 0, "not": 1}.get(form, 1 if form in PREFIXES else 2)
        return (form, *limits, *[self.rule(depth - 1) for _ in range(count)])

    def group(self, rule):
        free = free_in(rule)
        x = self.source.choice(self.names or ("x",))
        kept = tuple([name for name in free if name != x and name in self.names and self.source.random() < 0.5])
        if free and self.source.random() < 0.7:
            function = self.source.choice(("sum", "least", "most"))
            return ("group", x, function, self.source.choice(free), kept, rule)
        return ("group", x, "count", None, kept, rule)


def random_log(source, length):
    """A list of pairs (time, list of the calls that hold)."""
    rows = [("p", (a,)) for a in DOMAIN] + [("q", (a, b)) for a in DOMAIN for b in DOMAIN]
    log = []
    time = 0
    for _ in range(length):
        log.append((time, [row for row in rows if source.random() < 0.4]))
        time += source.randrange(3)
    return log


def choices(names, values):
    """The values with all choices of values of the domain for some names."""
    for chosen in itertools.product(DOMAIN, repeat=len(names)):
        yield {**values, **dict(zip(names, chosen))}


def value(term, values):
    if term[0] == "name":
        return values[term[1]]
    if term[0] in ("plus", "less"):
        a, b = [value(side, values) for side in term[1:]]
        return a + b if term[0] == "plus" else a - b
    return term[1]


class Meaning:
    """Tells whether a rule holds; free finds the names that are free in it, and defs may be none."""

    def __init__(self, log, free, defs):
        self.log = log
        self.free = free
        self.defs = defs

    def holds(self, rule, i, values):
        word, rest = rule[0], rule[1:]
        if word in ("call", "event"):
            return self.call(*rest, i, values)
        if word == "compare":
            a, b = [value(term, values) for term in rest[1:]]
            return {"=": a == b, "<": a < b, "<=": a <= b}[rest[0]]
        if word in ("true", "false"):
            return word == "true"
        if word in ("some", "all"):
            names = rest[0] if isinstance(rest[0], tuple) else (rest[0],)
            found = [self.holds(rest[1], i, inner) for inner in choices(names, values)]
            return any(found) if word == "some" else all(found)
        if word == "group":
            return self.group(rest, i, values)
        if word in ("not", "and", "or", "implies"):
            found = [self.holds(part, i, values) for part in rest]
            return {
                "not": not found[0], "and": all(found), "or": any(found), "implies": not found[0] or found[-1],
            }[word]
        return self.over_time(word, rest[:2], rest[2:], i, values)

    def call(self, name, basics, i, values):
        row = tuple([value(basic, values) for basic in basics])
        if name in self.defs:
            params, rule = self.defs[name]
            return self.holds(rule, i, dict(zip(params, row)))
        return (name, row) in self.log[i][1]

    def group(self, rest, i, values):
        x, function, y, names, part = rest
        bound = [name for name in self.free(part) if name not in names]
        found = [inner for inner in choices(bound, values) if self.holds(part, i, inner)]
        if not found:
            return False
        measured = [1 if y is None else inner[y] for inner in found]
        fold = {"count": sum, "sum": sum, "least": min, "most": max}[function]
        return values[x] == fold(measured)

    def over_time(self, word, limits, parts, i, values):
        def holds(part, j):
            return self.holds(part, j, values)

        def near(j):
            apart = abs(self.log[i][0] - self.log[j][0])
            return apart >= limits[0] and (limits[1] is None or apart <= limits[1])

        if word in ("before", "next"):
            j = i - 1 if word == "before" else i + 1
            return 0 <= j < len(self.log) and near(j) and holds(parts[0], j)
        past = word in ("once", "held", "since")
        points = [j for j in (range(i + 1) if past else range(i, len(self.log))) if near(j)]
        if word in ("once", "soon"):
            return any([holds(parts[0], j) for j in points])
        if word in ("held", "kept"):
            return all([holds(parts[0], j) for j in points])
        between = {j: range(j + 1, i + 1) if past else range(i, j) for j in points}
        return any([holds(parts[1], j) and all([holds(parts[0], k) for k in between[j]]) for j in points])

"""What sheets show, word by word as points 8.2 to 8.6 say it, and sheets that are changed at random: for tests."""

from sheetwatch.core import free_names

NEVER = None


def is_integer(value):
    return type(value) is int


def is_value(value):
    return type(value) in (int, str)


class PlainChecker:
    """Points 8.2 to 8.6. What is known of a name is ("value", v) or ("another", values)."""

    def __init__(self, log):
        self.log = log

    def check(self, core, i, values, holds, sheet):
        if not 0 <= i < len(self.log):
            return False
        return self.shows(core, i, {name: ("value", told) for name, told in values.items()}, holds, sheet)

    def shows(self, core, i, known, holds, sheet):
        """Whether the sheet has a form that may stand there, and all the claims that it needs are shown."""
        if not isinstance(sheet, tuple) or not sheet or not isinstance(sheet[0], str):
            return False
        name = f"{core[0]}_{'yes' if holds else 'no'}_{sheet[0]}"
        rule = getattr(self, name, None)
        if rule is None:
            return False
        try:
            needed = rule(core, i, known, *sheet[1:])
        except (TypeError, ValueError, AttributeError):
            # A part has another form than a tuple of so many things.
            return False
        if needed in (True, False):
            return needed
        return all(self.shows(*claim) for claim in needed)

    def time(self, i):
        return self.log[i][0]

    def near(self, core, i, j):
        apart = abs(self.time(i) - self.time(j))
        return core[1] <= apart and (core[2] is None or apart <= core[2])

    def value(self, term, known):
        if term[0] == "name":
            return known[term[1]][1] if known[term[1]][0] == "value" else NEVER
        if term[0] in ("num", "text"):
            return term[1]
        a, b = [self.value(side, known) for side in term[1:]]
        if not is_integer(a) or not is_integer(b):
            return NEVER
        return a + b if term[0] == "plus" else a - b

    def comparison(self, core, known):
        _, sign, a, b = core
        left, right = self.value(a, known), self.value(b, known)
        if sign == "=":
            if left is not NEVER and right is not NEVER:
                return left == right
            if a[0] == "name" and a == b:
                return True
            for side, other in ((a, right), (b, left)):
                if side[0] == "name" and known[side[1]][0] == "another" and other in known[side[1]][1]:
                    return False
            return None
        if is_integer(left) and is_integer(right):
            return left < right if sign == "<" else left <= right
        return None

    def event_yes_row(self, core, i, known):
        return tuple([self.value(basic, known) for basic in core[2]]) in dict(self.log[i][1]).get(core[1], ())

    def event_no_row(self, core, i, known):
        return all(self.is_not_meant(core[2], row, known) for row in dict(self.log[i][1]).get(core[1], ()))

    def is_not_meant(self, basics, row, known):
        pairs = list(zip(basics, row))
        for basic, value in pairs:
            told = self.value(basic, known)
            if told is not NEVER and told != value:
                return True
            if told is NEVER and value in known[basic[1]][1]:
                return True
        return any(one == other and a != b for one, a in pairs for other, b in pairs if one[0] == "name")

    def compare_yes_row(self, core, i, known):
        return self.comparison(core, known) is True

    def compare_no_row(self, core, i, known):
        return self.comparison(core, known) is False

    def true_yes_row(self, core, i, known):
        return True

    def not_yes_not(self, core, i, known, s):
        return [(core[1], i, known, False, s)]

    def not_no_not(self, core, i, known, s):
        return [(core[1], i, known, True, s)]

    def and_yes_both(self, core, i, known, s, u):
        return [(core[1], i, known, True, s), (core[2], i, known, True, u)]

    def or_no_both(self, core, i, known, s, u):
        return [(core[1], i, known, False, s), (core[2], i, known, False, u)]

    def or_yes_first(self, core, i, known, s):
        return [(core[1], i, known, True, s)]

    def or_yes_second(self, core, i, known, s):
        return [(core[2], i, known, True, s)]

    def and_no_first(self, core, i, known, s):
        return [(core[1], i, known, False, s)]

    def and_no_second(self, core, i, known, s):
        return [(core[2], i, known, False, s)]

    def some_yes_with(self, core, i, known, value, s):
        return is_value(value) and [(core[2], i, {**known, core[1]: ("value", value)}, True, s)]

    def branches(self, known, name, cases, last):
        """The pairs of what is known and what stands there, for each of the cases and for all else."""
        if type(cases) is not tuple or any(type(case) is not tuple for case in cases):
            raise ValueError
        values = [value for value, _ in cases]
        if not all(is_value(value) for value in values) or len(set(values)) < len(values):
            raise ValueError
        found = [({**known, name: ("value", value)}, own) for value, own in cases]
        return [*found, ({**known, name: ("another", tuple(values))}, last)]

    def some_no_cases(self, core, i, known, cases, u):
        return [(core[2], i, told, False, own) for told, own in self.branches(known, core[1], cases, u)]

    def before_yes_there(self, core, i, known, s):
        return i > 0 and self.near(core, i, i - 1) and [(core[3], i - 1, known, True, s)]

    def before_no_start(self, core, i, known):
        return i == 0

    def before_no_apart(self, core, i, known):
        return i > 0 and not self.near(core, i, i - 1)

    def before_no_there(self, core, i, known, s):
        return i > 0 and [(core[3], i - 1, known, False, s)]

    def next_yes_there(self, core, i, known, s):
        return i + 1 < len(self.log) and self.near(core, i, i + 1) and [(core[3], i + 1, known, True, s)]

    def next_no_apart(self, core, i, known):
        return i + 1 < len(self.log) and not self.near(core, i, i + 1)

    def next_no_there(self, core, i, known, s):
        return i + 1 < len(self.log) and [(core[3], i + 1, known, False, s)]

    def span(self, core, i, known, j, s, sheets, between):
        if type(sheets) is not tuple or len(sheets) != len(between) or not self.near(core, i, j):
            return False
        return [(core[4], j, known, True, s), *[(core[3], k, known, True, u) for k, u in zip(between, sheets)]]

    def since_yes_from(self, core, i, known, j, s, sheets):
        return is_integer(j) and 0 <= j <= i and self.span(core, i, known, j, s, sheets, range(j + 1, i + 1))

    def until_yes_from(self, core, i, known, j, s, sheets):
        in_log = is_integer(j) and i <= j < len(self.log)
        return in_log and self.span(core, i, known, j, s, sheets, range(i, j))

    def no_span(self, core, i, known, j, s, sheets, points):
        points = [m for m in points if self.near(core, i, m)]
        if type(sheets) is not tuple or len(sheets) != len(points):
            return False
        ends = [] if j == -1 else [(core[3], j, known, False, s)]
        return [*ends, *[(core[4], m, known, False, u) for m, u in zip(points, sheets)]]

    def since_no_none(self, core, i, known, j, s, sheets):
        if not is_integer(j) or not (j == -1 and s is None or 0 <= j <= i):
            return False
        return self.no_span(core, i, known, j, s, sheets, range(max(j, 0), i + 1))

    def until_no_none(self, core, i, known, j, s, sheets):
        if not is_integer(j):
            return False
        if j == -1:
            if s is not None or core[2] is None or self.time(-1) <= self.time(i) + core[2]:
                return False
            return self.no_span(core, i, known, j, s, sheets, range(i, len(self.log)))
        return i <= j < len(self.log) and self.no_span(core, i, known, j, s, sheets, range(i, j + 1))

    def group_yes_group(self, core, i, known, tree):
        value = self.value_of_group(core, i, known, tree)
        return value is not NEVER and known[core[1]] == ("value", value)

    def group_no_group(self, core, i, known, tree):
        value = self.value_of_group(core, i, known, tree)
        how, told = known[core[1]]
        return value is NEVER or (told != value if how == "value" else value in told)

    def value_of_group(self, core, i, known, tree):
        """The value over all yeses; NEVER if there is none. A tree that is not right is a ValueError."""
        _, _, function, y, names, part = core
        bound = [name for name in free_names(part) if name not in names]
        yeses = []
        for told, leaf in self.leaves(bound, known, tree):
            if type(leaf) is not tuple or len(leaf) != 2 or leaf[0] not in ("yes", "no"):
                raise ValueError
            if not self.shows(part, i, told, leaf[0] == "yes", leaf[1]):
                raise ValueError
            if leaf[0] == "yes":
                if any(told[name][0] == "another" for name in bound):
                    raise ValueError
                if y is not None and not (told[y][0] == "value" and is_integer(told[y][1])):
                    raise ValueError
                yeses.append(1 if y is None else told[y][1])
        if not yeses:
            return NEVER
        return {"count": len, "sum": sum, "least": min, "most": max}[function](yeses)

    def leaves(self, names, known, tree):
        if not names:
            return [(known, tree)]
        word, cases, last = tree
        if word != "cases" or type(tree) is not tuple:
            raise ValueError
        found = []
        for told, own in self.branches(known, names[0], cases, last):
            found.extend(self.leaves(names[1:], told, own))
        return found


WORDS_OF_SHEETS = (
    "row", "not", "both", "first", "second", "with", "cases", "start", "apart", "there", "from", "none", "group",
    "yes", "no",
)


def places_in(sheet):
    """The paths to all things in a sheet, each a tuple of indexes."""
    paths = [()]
    if isinstance(sheet, tuple):
        for at, inner in enumerate(sheet):
            paths.extend([(at, *path) for path in places_in(inner)])
    return paths


def thing_at(sheet, path):
    for at in path:
        sheet = sheet[at]
    return sheet


def with_thing(sheet, path, thing):
    if not path:
        return thing
    at = path[0]
    return (*sheet[:at], with_thing(sheet[at], path[1:], thing), *sheet[at + 1:])


def changed(source, sheet, values):
    """The sheet with another thing at one place."""
    paths = places_in(sheet)
    path = source.choice(paths)
    thing = thing_at(sheet, path)
    other = thing_at(sheet, source.choice(paths))
    things = [other, source.choice(values), source.choice((None, True, False, (), 0, -1, ("row",)))]
    if isinstance(thing, str) and source.random() < 0.7:
        things = [source.choice(WORDS_OF_SHEETS)]
    elif isinstance(thing, int) and source.random() < 0.7:
        things = [thing + 1, thing - 1, source.choice(values), bool(thing), str(thing)]
    elif isinstance(thing, tuple) and source.random() < 0.7:
        at = source.randrange(len(thing) + 1)
        things = [thing[:at] + thing[at + 1:], (*thing[:at], other, *thing[at:]), thing[:at] + thing[at - 1:],
                  thing[::-1], list(thing)]
        if thing and isinstance(thing[0], str):
            things.append((source.choice(WORDS_OF_SHEETS), *thing[1:]))
    return with_thing(sheet, path, source.choice(things))


class RandomSheets:
    """Makes sheets of forms that may stand there, which show their claims or not, as it comes."""

    def __init__(self, source, log, numbers, words):
        self.source = source
        self.log = log
        self.values = {"n": numbers, "w": words}

    def sheet(self, core, i, holds):
        word = core[0]
        if word == "not":
            return ("not", self.sheet(core[1], i, not holds))
        if word in ("and", "or"):
            if holds == (word == "and"):
                return ("both", self.sheet(core[1], i, holds), self.sheet(core[2], i, holds))
            at = self.source.choice((1, 2))
            return (("first", "second")[at - 1], self.sheet(core[at], i, holds))
        if word == "some":
            if holds:
                return ("with", self.source.choice(self.values[core[1][0]]), self.sheet(core[2], i, True))
            return self.cases(core[1], lambda: self.sheet(core[2], i, False))
        if word in ("before", "next"):
            j = i - 1 if word == "before" else i + 1
            if not holds and self.source.random() < 0.5 or not 0 <= j < len(self.log):
                return (self.source.choice(("start", "apart")),)
            return ("there", self.sheet(core[3], j, holds))
        if word in ("since", "until"):
            return self.span(core, i, holds)
        if word == "group":
            bound = [name for name in free_names(core[5]) if name not in core[4]]
            return ("group", self.tree(bound, core[5], i))
        return ("row",)

    def cases(self, name, make):
        domain = self.values[name[0]]
        values = self.source.sample(domain, self.source.choice((0, 1, 2, len(domain))))
        return ("cases", tuple([(value, make()) for value in values]), make())

    def tree(self, names, part, i):
        if names:
            return self.cases(names[0], lambda: self.tree(names[1:], part, i))
        holds = self.source.random() < 0.3
        return ("yes" if holds else "no", self.sheet(part, i, holds))

    def span(self, core, i, holds):
        word, low, high, first, second = core
        points = list(range(i + 1)) if word == "since" else list(range(i, len(self.log)))
        j = self.source.choice(points)
        if holds:
            between = range(j + 1, i + 1) if word == "since" else range(i, j)
            sheets = tuple([self.sheet(first, k, True) for k in between])
            return ("from", j, self.sheet(second, j, True), sheets)
        own = self.sheet(first, j, False)
        if self.source.random() < 0.5:
            j, own = -1, None
        near = [m for m in points if abs(self.log[m][0] - self.log[i][0]) >= low]
        near = [m for m in near if high is None or abs(self.log[m][0] - self.log[i][0]) <= high]
        if j >= 0:
            near = [m for m in near if (m >= j if word == "since" else m <= j)]
        return ("none", j, own, tuple([self.sheet(second, m, False) for m in near]))

"""Core rules at random that can be watched, and logs for them: for the tests of all that goes through logs.

Names that begin with n are numbers, those that begin with w words.
"""

from sheetwatch.core import free_names
from sheetwatch.tables import make_table

EVENTS = {"go": (), "p": ("number",), "q": ("number", "number"), "r": ("number", "word"), "s": ("word",)}
NUMBERS = (0, 1, 2)
WORDS = ("", "a", "b")
BOUNDED = ((0, 0), (0, 1), (0, 2), (1, 1), (1, 3), (2, 5), (0, 9))
UNBOUNDED = ((0, None), (1, None), (3, None))
TRUE = ("true",)


def renamed(core, old, new):
    """A core rule in which a free name is another one."""
    if isinstance(core, tuple):
        if core[:1] == ("name",):
            return ("name", new if core[1] == old else core[1])
        if core[:1] == ("group",):
            x, function, y, names, part = [renamed(inner, old, new) for inner in core[1:]]
            names = tuple([new if name == old else name for name in names])
            return ("group", new if x == old else x, function, new if y == old else y, names, part)
        return tuple([renamed(inner, old, new) for inner in core])
    return core


class RandomCores:
    """Makes core rules; depth tells how far they are nested, timed whether limits without an end may stand."""

    def __init__(self, source, unbounded=True, without=()):
        self.source = source
        self.number = 0
        self.unbounded = unbounded
        self.forms = [form for form in (
            "not", "join", "compare", "extend", "minus", "or", "some", "before", "next", "since", "since", "until",
            "until", "group", "group", "event",
        ) if form not in without]

    def core(self, depth):
        form = self.source.choice(self.forms) if depth > 0 else "leaf"
        if form in ("leaf", "event"):
            return self.leaf()
        return getattr(self, form)(depth - 1)

    def leaf(self):
        if self.source.random() < 0.85:
            return self.event(self.source.choice(sorted(EVENTS)))
        return self.source.choice((
            TRUE, ("compare", "<", ("num", 1), ("plus", ("num", 1), ("num", 1))),
            ("compare", "=", ("text", "a"), ("text", "b")),
            ("compare", "=", ("name", "n1"), ("num", self.source.choice(NUMBERS))),
            ("compare", "=", ("text", self.source.choice(WORDS)), ("name", "w1")),
        ))

    def event(self, name):
        return ("event", name, tuple([self.basic(kind) for kind in EVENTS[name]]))

    def basic(self, kind):
        if self.source.random() < 0.2:
            return ("num", self.source.choice(NUMBERS)) if kind == "number" else ("text", self.source.choice(WORDS))
        return ("name", self.source.choice(("n1", "n2", "n3") if kind == "number" else ("w1", "w2")))

    def limits(self, bounded=False):
        choices = BOUNDED if bounded or not self.unbounded else BOUNDED + UNBOUNDED + UNBOUNDED
        return self.source.choice(choices)

    def bound(self, core, name):
        """The new name for a name that is bound, and the core rule with it."""
        self.number += 1
        new = f"{name.partition('.')[0]}.{self.number}"
        return new, renamed(core, name, new)

    def closed(self, core, kept=()):
        """A core rule with a some for all free names but those kept."""
        for name in reversed(free_names(core)):
            if name not in kept:
                new, core = self.bound(core, name)
                core = ("some", new, core)
        return core

    def fresh(self, core):
        """A core rule with new bound names, because a rule that stands twice would bind the same ones twice."""
        return core

    def numbers(self, core):
        return [name for name in free_names(core) if name[0] == "n"]

    def term(self, names):
        def basic():
            if names and self.source.random() < 0.7:
                return ("name", self.source.choice(names))
            return ("num", self.source.choice(NUMBERS))
        if self.source.random() < 0.5:
            return basic()
        return (self.source.choice(("plus", "less")), basic(), basic())

    def either_way(self, word, one, other):
        return (word, one, other) if self.source.random() < 0.5 else (word, other, one)

    def join(self, depth):
        return ("and", self.core(depth), self.core(depth))

    def compare(self, depth):
        base = self.core(depth)
        numbers = self.numbers(base)
        words = [name for name in free_names(base) if name[0] == "w"]
        if words and self.source.random() < 0.4:
            other = self.source.choice([("name", word) for word in words] + [("text", "a")])
            found = ("compare", "=", ("name", self.source.choice(words)), other)
        else:
            found = ("compare", self.source.choice(("=", "<", "<=")), self.term(numbers), self.term(numbers))
        return self.either_way("and", base, ("not", found) if self.source.random() < 0.5 else found)

    def extend(self, depth):
        base = self.core(depth)
        new = [name for name in ("n1", "n2", "n3", "n4", "n5", "n6", "n7") if name not in free_names(base)][0]
        found = self.either_way("compare", ("name", new), self.term(self.numbers(base)))
        return self.either_way("and", base, ("compare", "=", *found[1:]))

    def minus(self, depth):
        base = self.core(depth)
        return self.either_way("and", base, ("not", self.closed(self.core(depth), free_names(base))))

    def or_of(self, depth):
        one, other = self.core(depth), self.core(depth)
        common = [name for name in free_names(one) if name in free_names(other)]
        return ("or", self.closed(one, common), self.closed(other, common))

    def not_of(self, depth):
        return ("not", self.closed(self.core(depth)))

    def some(self, depth):
        core = self.core(depth)
        names = free_names(core)
        if not names:
            return core
        new, core = self.bound(core, self.source.choice(names))
        return ("some", new, core)

    def before(self, depth):
        return ("before", *self.limits(), self.core(depth))

    def next(self, depth):
        return ("next", *self.limits(), self.core(depth))

    def since(self, depth):
        return ("since", *self.limits(), *self.span_parts(depth))

    def until(self, depth):
        return ("until", *self.limits(bounded=True), *self.span_parts(depth))

    def span_parts(self, depth):
        second = self.core(depth)
        if self.source.random() < 0.25:
            return TRUE, second
        first = self.closed(self.core(depth), free_names(second))
        if self.source.random() < 0.5:
            first = ("not", first)
        return first, second

    def group(self, depth):
        core = self.core(depth)
        free = list(free_names(core))
        names = [name for name in free if self.source.random() < 0.4]
        ys = self.numbers(core)
        y = self.source.choice(ys) if ys and self.source.random() < 0.7 else None
        for name in free:
            if name not in names:
                new, core = self.bound(core, name)
                y = new if y == name else y
        x = [name for name in ("n1", "n2", "n3", "n4", "n5", "n6", "n7") if name not in names][0]
        function = "count" if y is None else self.source.choice(("sum", "least", "most"))
        return ("group", x, function, y, tuple(names), core)


setattr(RandomCores, "or", RandomCores.or_of)
setattr(RandomCores, "not", RandomCores.not_of)


def random_log(source, length, numbers=NUMBERS, words=WORDS, steps=(0, 0, 1, 1, 2, 4)):
    """A log as point 4.1 describes it."""
    log = []
    time = source.choice((0, 3))
    for _ in range(length):
        events = []
        for name in sorted(EVENTS):
            rows = []
            for _ in range(source.choice((0, 0, 1, 1, 2))):
                rows.append(tuple([source.choice(numbers if kind == "number" else words) for kind in EVENTS[name]]))
            if rows:
                columns = tuple([f"c{at}" for at in range(len(EVENTS[name]))])
                events.append((name, make_table(columns, rows)[1]))
        log.append((time, tuple(events)))
        time += source.choice(steps)
    return log

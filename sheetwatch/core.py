"""The core of rules: the same rules in fewer forms, in which all bound names are different."""

from sheetwatch.forms import SIGNS_OF_WORDS
from sheetwatch.names import free_in
from sheetwatch.parts import ascending, first_rule_in, names_in_terms, rules_in

TRUE = ("true",)
# The words that say of some or all points what the core says with since and until.
SOMETIMES = {"once": "since", "soon": "until"}
ALWAYS = {"held": "since", "kept": "until"}


def core_of(rule, defs):
    """The core of a rule; defs is a dict from the names of defs to pairs (params, rule)."""
    return Translation(defs).core(rule, {})


def free_names(core):
    """The free names of a core rule, a tuple in ascending order."""
    word = core[0]
    if word == "event":
        return names_in_terms(core[2])
    if word == "compare":
        return names_in_terms(core[2:])
    if word == "some":
        return tuple([name for name in free_names(core[2]) if name != core[1]])
    if word == "group":
        return ascending([core[1], *core[4]])
    names = []
    for part in rules_in(core):
        names.extend(free_names(part))
    return ascending(names)


class Translation:
    """One translation of a rule, which numbers the names that it binds."""

    def __init__(self, defs):
        self.defs = defs
        self.number = 0

    def core(self, rule, scope):
        """The core of a rule; scope is a dict from the names bound around it to their new names."""
        word = rule[0]
        if word == "call":
            return self.call(rule[1], rule[2], scope)
        if word == "compare":
            return (word, rule[1], _renamed(rule[2], scope), _renamed(rule[3], scope))
        if word == "group":
            return self.group(rule, scope)
        if word == "false":
            return ("not", TRUE)
        if word == "not":
            return self.negation(rule[1], scope)
        if word == "implies":
            return ("or", self.negation(rule[1], scope), self.core(rule[2], scope))
        if word == "some":
            fresh, inner = self.bind(rule[1], scope)
            return _with_somes(fresh, self.core(rule[2], inner))
        if word in SOMETIMES:
            return (SOMETIMES[word], *rule[1:3], TRUE, self.core(rule[3], scope))
        if word == "all" or word in ALWAYS:
            return ("not", self.negation(rule, scope))
        parts = [self.core(part, scope) for part in rules_in(rule)]
        return (*rule[:first_rule_in(rule)], *parts)

    def negation(self, rule, scope):
        """The core of the negation of a rule."""
        word = rule[0]
        if word == "false":
            return TRUE
        if word == "not":
            return self.core(rule[1], scope)
        if word == "implies":
            return ("and", self.core(rule[1], scope), self.negation(rule[2], scope))
        if word == "all":
            fresh, inner = self.bind(rule[1], scope)
            return _with_somes(fresh, self.negation(rule[2], inner))
        if word in ALWAYS:
            return (ALWAYS[word], *rule[1:3], TRUE, self.negation(rule[3], scope))
        return ("not", self.core(rule, scope))

    def call(self, name, basics, scope):
        """The core of a call of an event or a def."""
        values = tuple([_renamed(basic, scope) for basic in basics])
        if name not in self.defs:
            return ("event", name, values)
        params, rule = self.defs[name]
        # The names around the call mean nothing in the rule of a def.
        fresh, inner = self.bind(params, {})
        core = self.core(rule, inner)
        for value, param in zip(values, fresh):
            core = ("and", core, ("compare", "=", value, ("name", param)))
        return _with_somes(fresh, core)

    def group(self, rule, scope):
        """The core of a group."""
        _, x, function, y, names, part = rule
        bound = [name for name in free_in(part) if name not in names]
        _, inner = self.bind(bound, scope)
        core_y = None if y is None else inner.get(y, y)
        core_names = tuple([scope.get(name, name) for name in names])
        return ("group", scope.get(x, x), function, core_y, core_names, self.core(part, inner))

    def bind(self, names, scope):
        """The list of the new names of names that are bound in a scope, and the scope inside."""
        fresh = []
        inner = dict(scope)
        for name in names:
            self.number += 1
            inner[name] = f"{name}.{self.number}"
            fresh.append(inner[name])
        return fresh, inner


def _with_somes(names, core):
    """A core rule behind a some for each of the names."""
    for name in reversed(names):
        core = ("some", name, core)
    return core


def _renamed(term, scope):
    """A term with the new names of a scope."""
    word = term[0]
    if word == "name":
        return (word, scope.get(term[1], term[1]))
    if word in SIGNS_OF_WORDS:
        return (word, _renamed(term[1], scope), _renamed(term[2], scope))
    return term

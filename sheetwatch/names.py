"""The names of rules: which ones are free, and whether all are declared as they must be."""

from sheetwatch.errors import DoubleName, UnknownName, WrongCount
from sheetwatch.forms import QUANTIFIERS
from sheetwatch.parts import ascending, names_in_terms, rules_in


def check_names(tree):
    """Raises the first error in the names of a tree of rules."""
    counts = {}
    watches = {}
    for item in tree:
        word, name = item[:2]
        if word == "watch":
            _check_new(name, watches)
            _check_rule(item[2], counts)
            watches[name] = True
        else:
            _check_new(name, counts)
            if word == "def":
                _check_def(item[2], item[3], counts)
            # Only now, because a def may not call itself.
            counts[name] = len(item[2])


def free_in(rule):
    """The free names of a rule, a tuple in ascending order."""
    word = rule[0]
    if word == "call":
        return names_in_terms(rule[2])
    if word == "compare":
        return names_in_terms(rule[2:])
    if word in QUANTIFIERS:
        return tuple([name for name in free_in(rule[2]) if name not in rule[1]])
    if word == "group":
        return ascending([rule[1], *rule[4]])
    names = []
    for part in rules_in(rule):
        names.extend(free_in(part))
    return ascending(names)


def _check_new(name, known):
    if name in known:
        raise DoubleName(name)


def _check_def(params, rule, counts):
    _check_different(params)
    _check_rule(rule, counts)
    _check_among(free_in(rule), params)


def _check_rule(rule, counts):
    """Examines a rule; counts tells for each declared event and def how many values a call has."""
    word = rule[0]
    if word == "call":
        _check_call(rule[1], rule[2], counts)
    elif word == "group":
        _check_group(rule, counts)
    elif word in QUANTIFIERS:
        _check_different(rule[1])
        _check_rule(rule[2], counts)
    elif word != "compare":
        for part in rules_in(rule):
            _check_rule(part, counts)


def _check_call(name, basics, counts):
    if name not in counts:
        raise UnknownName(name)
    if len(basics) != counts[name]:
        raise WrongCount(name)


def _check_group(rule, counts):
    _, x, function, y, names, part = rule
    _check_different((x, *names))
    if (function == "count") != (y is None):
        raise WrongCount(function)
    _check_rule(part, counts)
    needed = names if y is None else (y, *names)
    _check_among(needed, free_in(part))


def _check_different(names):
    seen = {}
    for name in names:
        _check_new(name, seen)
        seen[name] = True


def _check_among(names, known):
    for name in names:
        if name not in known:
            raise UnknownName(name)

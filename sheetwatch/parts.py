"""The parts of rules and terms, in trees and in cores."""

from sheetwatch.forms import OPERATORS_WITH_LIMITS, PREFIXES_WITH_LIMITS, SIGNS_OF_WORDS


def rules_in(rule):
    """The tuple of the rules right inside a rule that binds no names and is no call, event or compare."""
    return rule[first_rule_in(rule):]


def first_rule_in(rule):
    """The index of the first rule right inside such a rule; what stands before it are its word and limits."""
    word = rule[0]
    return 3 if word in OPERATORS_WITH_LIMITS or word in PREFIXES_WITH_LIMITS else 1


def rules_in_core(core):
    """The tuple of the rules right inside a core rule of any form."""
    word = core[0]
    if word in ("event", "compare"):
        return ()
    return core[-1:] if word in ("some", "group") else rules_in(core)


def is_comparison(core):
    """Whether a core rule is a compare, or the not of one."""
    return core[0] == "compare" or core[0] == "not" and core[1][0] == "compare"


def names_in_terms(terms):
    """The different names in some terms, a tuple in ascending order."""
    names = []
    waiting = list(terms)
    while waiting:
        term = waiting.pop()
        if term[0] == "name":
            names.append(term[1])
        elif term[0] in SIGNS_OF_WORDS:
            waiting.extend(term[1:])
    return ascending(names)


def ascending(names):
    """The different ones of some names, a tuple in ascending order."""
    return tuple(sorted(set(names)))

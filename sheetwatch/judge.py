"""Which core rules can be watched, how far they look, and at which points they are settled."""

from sheetwatch.core import free_names
from sheetwatch.parts import is_comparison, names_in_terms, rules_in_core

CONSTANTS = ("num", "text")
PAST = ("before", "since")
FUTURE = ("next", "until")


def can_be_watched(core):
    """Whether a core rule can be watched."""
    return Judged(core).watched


def fits(core, names):
    """Whether a core rule fits one with these free names."""
    return _fits(Judged(core), names)


def and_parts(core):
    """The triple (how, base, other) of an and that can be watched: how is "join" or "fit"."""
    rule = Judged(core)
    base, other = rule.base_and_other(rule.parts)
    return ("join" if rule.how == "join" else "fit", base.core, other.core)


def back(core):
    """How far a core rule looks back; None if there is no bound."""
    return _reach(core, PAST)


def ahead(core):
    """How far a core rule looks ahead; None if there is no bound."""
    return _reach(core, FUTURE)


def settled(core, times, i):
    """Whether a core rule is settled at the point i of a log whose points have these times."""
    return 0 <= i < _settled_points(core, times)


class Judged:
    """A core rule with its parts, each of which is judged once."""

    def __init__(self, core):
        self.core = core
        self.free = free_names(core)
        self.parts = []
        for part in rules_in_core(core):
            self.parts.append(Judged(part))
        # How the table of an and that can be watched is made of that of its base: it is the "join" with the table
        # of the other rule, or is "fitted" to a comparison, or "minus" the table of the rule behind a not.
        self.how = None
        self.base_comes_first = True
        if core[0] == "and":
            self.how, self.base_comes_first = _way_of_and(*self.parts)
        self.watched = _watched(self)

    def base_and_other(self, parts):
        """The base and the other one of what stands for the two parts of an and."""
        one, other = parts
        return (one, other) if self.base_comes_first else (other, one)


def _watched(rule):
    """Whether a rule can be watched, of which the parts are judged."""
    word = rule.core[0]
    if word == "compare":
        return _is_table(rule.core)
    if word == "not":
        return rule.parts[0].watched and rule.free == ()
    if word == "and":
        return rule.how is not None
    if word == "or":
        one, other = rule.parts
        return one.watched and other.watched and one.free == other.free
    if word in ("since", "until"):
        return (word == "since" or rule.core[2] is not None) and _watched_span(*rule.parts)
    # An event and true have no parts; some, before, next and a group have one.
    return all([part.watched for part in rule.parts])


def _is_table(compare):
    """Whether a compare has no names, or is a = of a name and a number or text."""
    _, sign, a, b = compare
    if names_in_terms((a, b)) == ():
        return True
    return sign == "=" and (a[0] == "name" and b[0] in CONSTANTS or a[0] in CONSTANTS and b[0] == "name")


def _watched_span(one, other):
    """Whether a since or an until of two rules, with limits that may stand there, can be watched."""
    if not other.watched or not _are_among(one.free, other.free):
        return False
    return one.watched or one.core[0] == "not" and one.parts[0].watched


def _way_of_and(one, other):
    """How an and is made of two rules, and whether the first one is the base."""
    if one.watched and other.watched:
        return ("join", True)
    if one.watched and _fits(other, one.free):
        return (_way_of_fit(other), True)
    if other.watched and _fits(one, other.free):
        return (_way_of_fit(one), False)
    return (None, True)


def _way_of_fit(rule):
    return "fitted" if is_comparison(rule.core) else "minus"


def _fits(rule, names):
    if is_comparison(rule.core) and _are_among(rule.free, names):
        return True
    if rule.core[0] == "compare":
        _, sign, a, b = rule.core
        return sign == "=" and (_tells_name(a, b, names) or _tells_name(b, a, names))
    return rule.core[0] == "not" and rule.parts[0].watched and _are_among(rule.free, names)


def _tells_name(side, term, names):
    """Whether a side is a name that is not among the names, and all names of a term are."""
    return side[0] == "name" and side[1] not in names and _are_among(names_in_terms((term,)), names)


def _are_among(names, known):
    return all([name in known for name in names])


def _reach(core, words):
    """How far a core rule looks where these words add their limits."""
    far = 0
    for part in rules_in_core(core):
        reach = _reach(part, words)
        if reach is None:
            return None
        far = max(far, reach)
    if core[0] not in words:
        return far
    return None if core[2] is None else far + core[2]


def _settled_points(core, times):
    """The number of points at which a core rule is settled; they are the first ones of the log."""
    word = core[0]
    many = len(times)
    for part in rules_in_core(core):
        many = min(many, _settled_points(part, times))
    if word == "before":
        return min(many + 1, len(times))
    if word == "next":
        return max(many - 1, 0)
    if word == "until":
        return _settled_points_of_until(core[2], many, times)
    return many


def _settled_points_of_until(high, many, times):
    """The same of an until whose parts are settled at so many points."""
    if high is None:
        return 0
    found = 0
    for time in times:
        # The times do not fall, so the points up to time + high are the first ones.
        needed = len([other for other in times if other <= time + high])
        if needed == len(times) or needed > many:
            break
        found += 1
    return found

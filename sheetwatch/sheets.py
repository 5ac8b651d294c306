"""Makes sheets for claims of core rules that can be watched.

What the claims of parts say depends on what is known of the names (see claims.py). An attempt to show that a rule
does not hold ends in one of four ways, a pair:

(NO, sheet): the sheet shows it;
(YES, None): the rule holds;
(NEED, (name, values)): it cannot be shown while a name may have some of these values;
(UNKNOWN, None): it cannot be shown for another reason.
"""

from sheetwatch.claims import IS, OTHER, known_comparison, known_value, may_be_meant
from sheetwatch.judge import Judged, settled
from sheetwatch.logs import rows_of_event
from sheetwatch.meaning import RuleInLog, in_limits, neighbor_in_limits, points_in_span

NO = "no"
YES = "yes"
NEED = "need"
UNKNOWN = "unknown"
ROW = ("row",)


def make_sheet(core, log, i, values, holds):
    """A sheet for the claim that a core rule holds at a point for values, or that it does not; None if it is not so."""
    if not settled(core, tuple([point[0] for point in log]), i):
        return None
    rule = RuleInLog(Judged(core), log)
    known = {name: (IS, values[name]) for name in rule.free}
    maker = SheetMaker(log)
    if maker.holds(rule, i, known) != holds:
        return None
    return maker.prove(rule, i, known) if holds else maker.refute(rule, i, known)[1]


class SheetMaker:
    """Makes sheets for a log.

    All methods are told a rule in this log, a point, and what is known of the names, in the order in which they are
    bound.
    """

    def __init__(self, log):
        self.log = log
        # What was found before, because since and until come to the same claims again and again.
        self.proved = {}
        self.refuted = {}

    def holds(self, rule, i, known):
        """Whether a rule that can be watched holds, of which all free names have values."""
        return tuple([known[name][1] for name in rule.free]) in rule.table(i)[1]

    def prove(self, rule, i, known):
        """The sheet that shows that a rule holds, which does, and of which all free names have values."""
        key = (rule, i, tuple([known[name] for name in rule.free]))
        if key not in self.proved:
            self.proved[key] = self.find_proof(rule, i, known)
        return self.proved[key]

    def find_proof(self, rule, i, known):
        """The same, made now."""
        word = rule.core[0]
        if word == "not":
            return ("not", self.refute(rule.parts[0], i, known)[1])
        if word == "and":
            return ("both", self.prove(rule.parts[0], i, known), self.prove(rule.parts[1], i, known))
        if word == "or":
            if self.holds(rule.parts[0], i, known):
                return ("first", self.prove(rule.parts[0], i, known))
            return ("second", self.prove(rule.parts[1], i, known))
        if word == "some":
            x = rule.core[1]
            value = self.witness(rule.parts[0], i, x, known)
            return ("with", value, self.prove(rule.parts[0], i, {**known, x: (IS, value)}))
        if word in ("before", "next"):
            return ("there", self.prove(rule.parts[0], neighbor_in_limits(rule.core, self.log, i), known))
        if word in ("since", "until"):
            return self.prove_span(rule, i, known)
        if word == "group":
            return ("group", self.tree(rule, i, known)[1])
        return ROW

    def witness(self, part, i, x, known):
        """A value of x for which the rule of a some holds."""
        for row in part.table(i)[1]:
            values = dict(zip(part.free, row))
            if all([known[name] == (IS, values[name]) for name in part.free if name != x]):
                # A name that does not occur may have any value.
                return values.get(x, 0)
        return None

    def prove_span(self, rule, i, known):
        """The sheet that shows that a since or an until holds, for the nearest point that tells it."""
        first, second = rule.parts
        sheets = []
        for j in points_in_span(rule.core, self.log, i):
            if in_limits(rule.core, self.log, i, j) and self.holds(second, j, known):
                own = self.prove(second, j, known)
                return ("from", j, own, in_time(rule.core, sheets))
            sheets.append(self.prove(first, j, known))
        return None

    def refute(self, rule, i, known):
        """What an attempt to show that a rule does not hold comes to."""
        key = (rule, i, tuple([known[name] for name in rule.free]))
        if key not in self.refuted:
            self.refuted[key] = self.find_refutation(rule, i, known)
        return self.refuted[key]

    def find_refutation(self, rule, i, known):
        """The same, made now."""
        word = rule.core[0]
        if word == "compare":
            return refute_compare(rule.core, known)
        valued = all([known[name][0] == IS for name in rule.free])
        if word == "not":
            return self.refute_not(rule.parts[0], i, known, valued)
        if valued and self.holds(rule, i, known):
            return (YES, None)
        if word == "event":
            return refute_event(rule.core, self.log[i], known)
        if word == "and":
            return self.refute_and(rule, i, known)
        if word == "or":
            return self.refute_or(rule, i, known)
        if word == "some":
            return self.cases((rule.core[1],), False, rule.parts[0], i, known)
        if word in ("before", "next"):
            return self.refute_neighbor(rule, i, known)
        if word == "group":
            return self.refute_group(rule, i, known)
        return self.refute_span(rule, i, known)

    def refute_not(self, part, i, known, valued):
        """The same for the not of a rule."""
        if part.core[0] == "compare":
            if known_comparison(part.core, known) is True:
                return (NO, ("not", ROW))
        elif valued and self.holds(part, i, known):
            return (NO, ("not", self.prove(part, i, known)))
        return (YES if valued else UNKNOWN, None)

    def refute_and(self, rule, i, known):
        """The same for an and. What the base needs comes first, because a rule that fits it may need too much."""
        words = ("first", "second") if rule.rule.base_comes_first else ("second", "first")
        results = []
        for word, part in zip(words, rule.rule.base_and_other(rule.parts)):
            how, told = self.refute(part, i, known)
            if how == NO:
                return (NO, (word, told))
            results.append((how, told))
        return results[0] if results[0][0] == NEED else results[1]

    def refute_or(self, rule, i, known):
        """The same for an or."""
        results = []
        for part in rule.parts:
            results.append(self.refute(part, i, known))
        if all([result[0] == NO for result in results]):
            return (NO, ("both", results[0][1], results[1][1]))
        return what_is_missing(results)

    def refute_neighbor(self, rule, i, known):
        """The same for a before or a next."""
        if i == 0 and rule.core[0] == "before":
            return (NO, ("start",))
        j = neighbor_in_limits(rule.core, self.log, i)
        if j is None:
            return (NO, ("apart",))
        how, told = self.refute(rule.parts[0], j, known)
        return (NO, ("there", told)) if how == NO else (how, told)

    def refute_span(self, rule, i, known):
        """The same for a since or an until, up to the nearest point at which the first part does not hold."""
        first, second = rule.parts
        results = []
        end, own = -1, None
        for j in points_in_span(rule.core, self.log, i):
            if in_limits(rule.core, self.log, i, j):
                results.append(self.refute(second, j, known))
            how, told = self.refute(first, j, known)
            if how == NO:
                end, own = j, told
                break
        if not all([result[0] == NO for result in results]):
            return what_is_missing(results)
        return (NO, ("none", end, own, in_time(rule.core, [told for _, told in results])))

    def refute_group(self, rule, i, known):
        """The same for a group."""
        x = rule.core[1]
        value = self.value_of_group(rule, i, known)
        how, told = known[x]
        if value is not None and how == OTHER and value not in told:
            return (NEED, (x, (value,)))
        how, tree = self.tree(rule, i, known)
        return (NO, ("group", tree)) if how == NO else (how, tree)

    def value_of_group(self, rule, i, known):
        """The function's value for the values of the names of a group; None if there is none, so that no yes stands
        in the tree."""
        _, x, _, _, names, _ = rule.core
        for row in rule.table(i)[1]:
            values = dict(zip(rule.free, row))
            if all([known[name] == (IS, values[name]) for name in names]):
                return values[x]
        return None

    def tree(self, rule, i, known):
        """The pair of NO and the tree of a group, or what is missing for one."""
        part = rule.parts[0]
        bound = tuple([name for name in part.free if name not in rule.core[4]])
        return self.cases(bound, True, part, i, known)

    def cases(self, names, in_group, part, i, known):
        """The pair of NO and the cases of all values of the names of a group or a some, or what is missing for them."""
        if not names:
            return self.leaf(part, i, known) if in_group else self.refute(part, i, known)
        name, rest = names[0], names[1:]
        values = ()
        how, told = self.cases(rest, in_group, part, i, {**known, name: (OTHER, values)})
        while how == NEED and told[0] == name:
            values = (*values, *told[1])
            how, told = self.cases(rest, in_group, part, i, {**known, name: (OTHER, values)})
        if how != NO:
            return (how, told)
        found = []
        for value in values:
            own_how, own = self.cases(rest, in_group, part, i, {**known, name: (IS, value)})
            if own_how != NO:
                return (own_how, own)
            found.append((value, own))
        return (NO, ("cases", tuple(found), told))

    def leaf(self, part, i, known):
        """The pair of NO and the leaf of a tree, or what is missing for one."""
        how, told = self.refute(part, i, known)
        if how == YES:
            return (NO, ("yes", self.prove(part, i, known)))
        return (NO, ("no", told)) if how == NO else (how, told)


def refute_compare(core, known):
    """What an attempt to show that a compare does not hold comes to."""
    truth = known_comparison(core, known)
    if truth is not None:
        return (YES, None) if truth else (NO, ROW)
    _, sign, a, b = core
    for side, term in ((a, b), (b, a)):
        value = known_value(term, known)
        if sign == "=" and value is not None and side[0] == "name":
            return (NEED, (side[1], (value,)))
    return (UNKNOWN, None)


def refute_event(core, point, known):
    """The same for an event. The name that is bound first is needed first, because it may be needed anyway."""
    _, name, basics = core
    rows = [row for row in rows_of_event(point, name) if may_be_meant(basics, row, known)]
    if not rows:
        return (NO, ROW)
    places = {basic[1]: at for at, basic in enumerate(basics) if basic[0] == "name"}
    for other in known:
        if other in places and known[other][0] == OTHER:
            return (NEED, (other, different([row[places[other]] for row in rows])))
    return (YES, None)


def what_is_missing(results):
    """What several attempts come to, not all of which showed their claims."""
    missing = [result for result in results if result[0] != NO]
    how, told = missing[0]
    if how != NEED:
        return missing[0]
    values = []
    for other, need in missing:
        # All values at once, because each new value makes a new round.
        if other == NEED and need[0] == told[0]:
            values.extend(need[1])
    return (NEED, (told[0], different(values)))


def different(values):
    """The tuple of the different ones of some values."""
    return tuple(list({value: True for value in values}))


def in_time(core, sheets):
    """The tuple of the sheets of a since or an until, which were made from the nearest point on, in the log's order."""
    return tuple(list(reversed(sheets))) if core[0] == "since" else tuple(sheets)

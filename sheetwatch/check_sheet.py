"""The checker of sheets, which decides about them without knowing how they were made."""

from sheetwatch.claims import ANY, IS, OTHER, is_number, is_value, known_comparison, known_value, may_be_meant
from sheetwatch.core import free_names
from sheetwatch.logs import rows_of_event, within
from sheetwatch.tables import value_over


def check_sheet(core, log, i, values, holds, sheet):
    """Whether a sheet shows the claim that a core rule holds at a point for values, or that it does not hold."""
    known = {name: (IS, values[name]) for name in values}
    return 0 <= i < len(log) and Checker(log).shows(core, i, known, holds, sheet)


class Checker:
    """Checks sheets for a log.

    All methods are told a core rule, a point, what is known of the names, whether the rule is said to hold, and the
    sheet, which may be anything.
    """

    def __init__(self, log):
        self.log = log

    def shows(self, core, i, known, holds, sheet):
        """Whether a sheet shows that a rule holds, or that it does not hold."""
        word = core[0]
        if word in ("event", "compare", "true"):
            return is_form(sheet, "row", 0) and self.is_known(core, i, known, holds)
        if word == "not":
            return is_form(sheet, "not", 1) and self.shows(core[1], i, known, not holds, sheet[1])
        if word in ("and", "or"):
            return self.shows_pair(core, i, known, holds, sheet)
        if word == "some":
            return self.shows_some(core, i, known, holds, sheet)
        if word in ("before", "next"):
            return self.shows_neighbor(core, i, known, holds, sheet)
        if word == "group":
            return self.shows_group(core, i, known, holds, sheet)
        if holds:
            return self.shows_span(core, i, known, sheet)
        return self.shows_no_span(core, i, known, sheet)

    def is_known(self, core, i, known, holds):
        """Whether the point itself tells that an event, a compare or true holds, or that it does not hold."""
        if core[0] == "true":
            return holds
        if core[0] == "compare":
            return known_comparison(core, known) == holds
        rows = rows_of_event(self.log[i], core[1])
        if not holds:
            return not any([may_be_meant(core[2], row, known) for row in rows])
        return tuple([known_value(basic, known) for basic in core[2]]) in rows

    def shows_pair(self, core, i, known, holds, sheet):
        """The same for an and or an or."""
        _, one, other = core
        if holds == (core[0] == "and"):
            return (
                is_form(sheet, "both", 2) and self.shows(one, i, known, holds, sheet[1])
                and self.shows(other, i, known, holds, sheet[2])
            )
        if is_form(sheet, "first", 1):
            return self.shows(one, i, known, holds, sheet[1])
        return is_form(sheet, "second", 1) and self.shows(other, i, known, holds, sheet[1])

    def shows_some(self, core, i, known, holds, sheet):
        """The same for a some."""
        _, x, part = core
        if holds:
            return (
                is_form(sheet, "with", 2) and is_value(sheet[1])
                and self.shows(part, i, {**known, x: (IS, sheet[1])}, True, sheet[2])
            )
        if not is_cases(sheet):
            return False
        for value, own in sheet[1]:
            if not self.shows(part, i, {**known, x: (IS, value)}, False, own):
                return False
        return self.shows(part, i, {**known, x: another(sheet)}, False, sheet[2])

    def shows_neighbor(self, core, i, known, holds, sheet):
        """The same for a before or a next."""
        word, low, high, part = core
        j = i - 1 if word == "before" else i + 1
        if j < 0:
            return not holds and is_form(sheet, "start", 0)
        if j == len(self.log):
            return False
        near = self.is_near(i, j, low, high)
        if not holds and is_form(sheet, "apart", 0):
            return not near
        return is_form(sheet, "there", 1) and (near or not holds) and self.shows(part, j, known, holds, sheet[1])

    def shows_span(self, core, i, known, sheet):
        """Whether a sheet shows that a since or an until holds."""
        word, low, high, first, second = core
        if not is_form(sheet, "from", 3):
            return False
        _, j, own, sheets = sheet
        if not self.is_point_of_span(word, i, j) or not self.is_near(i, j, low, high):
            return False
        points = list(range(j + 1, i + 1)) if word == "since" else list(range(i, j))
        return self.shows(second, j, known, True, own) and self.shows_all(first, points, known, True, sheets)

    def shows_no_span(self, core, i, known, sheet):
        """Whether a sheet shows that a since or an until does not hold."""
        word, low, high, first, second = core
        if not is_form(sheet, "none", 3):
            return False
        _, j, own, sheets = sheet
        if j == -1:
            if own is not None or word == "until" and not self.is_past(i, high):
                return False
            points = list(range(i + 1)) if word == "since" else list(range(i, len(self.log)))
        elif self.is_point_of_span(word, i, j):
            if not self.shows(first, j, known, False, own):
                return False
            points = list(range(j, i + 1)) if word == "since" else list(range(i, j + 1))
        else:
            return False
        points = [m for m in points if self.is_near(i, m, low, high)]
        return self.shows_all(second, points, known, False, sheets)

    def shows_all(self, core, points, known, holds, sheets):
        """Whether there is just one sheet for each of some points, and all of them show their claims."""
        if not isinstance(sheets, tuple) or len(sheets) != len(points):
            return False
        for j, sheet in zip(points, sheets):
            if not self.shows(core, j, known, holds, sheet):
                return False
        return True

    def is_point_of_span(self, word, i, j):
        """Whether j is a point that a since or an until at i may speak of."""
        if not is_number(j):
            return False
        return 0 <= j <= i if word == "since" else i <= j < len(self.log)

    def is_near(self, i, j, low, high):
        """Whether the times of two points are apart within limits."""
        return within(low, high, abs(self.log[i][0] - self.log[j][0]))

    def is_past(self, i, high):
        """Whether the log goes on beyond a high limit from a point on."""
        return high is not None and self.log[-1][0] > self.log[i][0] + high

    def shows_group(self, core, i, known, holds, sheet):
        """The same as shows for a group."""
        _, x, function, y, names, part = core
        if not is_form(sheet, "group", 1):
            return False
        bound = [name for name in free_names(part) if name not in names]
        yeses = self.yeses(part, i, known, (bound, bound, y), sheet[1])
        if yeses is None:
            return False
        if not yeses:
            return not holds
        value = value_over(function, yeses)
        how, told = known.get(x, ANY)
        if how == OTHER:
            return not holds and value in told
        return (told == value) == holds

    def yeses(self, part, i, known, form, tree):
        """The list of the rows that the yeses of a tree count for, each with the value of y; None if it is not right.

        The form holds the names that are still to be gone through, all names that the group binds, and y.
        """
        names, bound, y = form
        if not names:
            return self.yes_of_leaf(part, i, known, bound, y, tree)
        if not is_cases(tree):
            return None
        found = []
        rest = (names[1:], bound, y)
        branches = [((IS, value), own) for value, own in tree[1]]
        for told, own in [*branches, (another(tree), tree[2])]:
            yeses = self.yeses(part, i, {**known, names[0]: told}, rest, own)
            if yeses is None:
                return None
            found.extend(yeses)
        return found

    def yes_of_leaf(self, part, i, known, bound, y, leaf):
        """The same for a leaf, which counts for one row or for none."""
        if is_form(leaf, "no", 1):
            return [] if self.shows(part, i, known, False, leaf[1]) else None
        if not is_form(leaf, "yes", 1) or not self.shows(part, i, known, True, leaf[1]):
            return None
        if any([known[name][0] == OTHER for name in bound]):
            return None
        if y is None:
            return [()]
        how, value = known.get(y, ANY)
        return [(value,)] if how == IS and is_number(value) else None


def is_form(sheet, word, many):
    """Whether a sheet is a tuple of a word and so many other things."""
    return isinstance(sheet, tuple) and len(sheet) == many + 1 and sheet[0] == word


def is_cases(sheet):
    """Whether a sheet has the form of cases, with different values."""
    if not is_form(sheet, "cases", 2) or not isinstance(sheet[1], tuple):
        return False
    seen = {}
    for case in sheet[1]:
        if not isinstance(case, tuple) or len(case) != 2 or not is_value(case[0]) or case[0] in seen:
            return False
        seen[case[0]] = True
    return True


def another(cases):
    """What is known of a name that is another one than the values of cases."""
    return (OTHER, tuple([value for value, _ in cases[1]]))

"""Points 8.1 to 8.6: which sheets the checker takes for which claims."""

import random
import unittest

from sheetwatch.check_sheet import check_sheet
from sheetwatch.core import core_of, free_names
from sheetwatch.judge import settled
from sheetwatch.logs import read_log
from sheetwatch.meaning import table_at
from sheetwatch.parser import parse_rule
from sheetwatch.sheets import make_sheet
from tests.meanings import RandomRules
from tests.plain_sheets import PlainChecker, RandomSheets, changed
from tests.watchable import EVENTS, NUMBERS, WORDS, RandomCores, random_log

ROW = ("row",)
NO_SHEETS = (
    None, True, False, 0, 1, -1, "row", "", (), (ROW,), ("row", None), ("row", ()), ("rows",), ("Row",), (None,),
    (True,), (0,), (("row",),), ("not",), ("not", ROW, ROW), ("both", ROW), ("first",), ("first", ROW, ROW),
    ("with", 1), ("cases", ()), ("there",), ("from", 0, ROW), ("none", -1, None), ("group",), ("yes", ROW),
    ("no", ROW), ((), ()), ("", ROW), ("start", None), ("apart", ROW),
)
GO = ("event", "go", ())
X = ("name", "x")
Y = ("name", "y")


def num(number):
    return ("num", number)


def p(*basics):
    return ("event", "p", basics)


def q(*basics):
    return ("event", "q", basics)


def equal(a, b):
    return ("compare", "=", a, b)


class SheetCase(unittest.TestCase):
    LOG = read_log('@1 p(1) p(2) q(1, 2) q(2, 2)\n@4 go() r(3, "a")\n@4 p(5) q(1, 1)\n@9 go()\n@20 p(1)', EVENTS)

    def takes(self, core, i, values, holds, sheet):
        return check_sheet(core, self.LOG, i, values, holds, sheet)

    def check_taken(self, core, i, values, holds, *sheets):
        for sheet in sheets:
            self.assertIs(self.takes(core, i, values, holds, sheet), True, (core, i, values, holds, sheet))
            self.assertIs(self.takes(core, i, values, not holds, sheet), False, (core, i, values, holds, sheet))

    def check_refused(self, core, i, values, *sheets):
        for sheet in (*sheets, *NO_SHEETS):
            for holds in (True, False):
                self.assertIs(self.takes(core, i, values, holds, sheet), False, (core, i, values, holds, sheet))

    def check_only(self, core, i, values, holds, *sheets):
        """The sheets are taken for this claim, and what is no sheet is taken for none."""
        self.check_taken(core, i, values, holds, *sheets)
        others = [sheet for sheet in NO_SHEETS if sheet not in sheets]
        for sheet in others:
            for claim in (True, False):
                self.assertIs(self.takes(core, i, values, claim, sheet), False, (core, i, values, claim, sheet))


class PointTest(SheetCase):
    """Events, compares and true for values."""

    def test_events(self):
        self.check_taken(p(X), 0, {"x": 1}, True, ROW)
        self.check_taken(p(X), 0, {"x": 3}, False, ROW)
        self.check_taken(p(X), 1, {"x": 1}, False, ROW)
        self.check_taken(p(X), 0, {"x": "1"}, False, ROW)
        self.check_taken(q(X, num(2)), 0, {"x": 2}, True, ROW)
        self.check_taken(q(X, num(1)), 0, {"x": 2}, False, ROW)
        self.check_taken(q(X, X), 0, {"x": 2}, True, ROW)
        self.check_taken(q(X, X), 0, {"x": 1}, False, ROW)
        self.check_taken(q(X, Y), 0, {"x": 1, "y": 2}, True, ROW)
        self.check_taken(q(X, Y), 0, {"x": 2, "y": 1}, False, ROW)
        self.check_taken(GO, 1, {}, True, ROW)
        self.check_taken(GO, 0, {}, False, ROW)
        self.check_taken(("event", "r", (X, ("text", "a"))), 1, {"x": 3}, True, ROW)
        self.check_taken(("event", "r", (X, ("text", "b"))), 1, {"x": 3}, False, ROW)

    def test_other_things(self):
        for core, values in ((p(X), {"x": 1}), (p(X), {"x": 3}), (GO, {}), (("true",), {}), (equal(X, X), {"x": 1})):
            others = [sheet for sheet in NO_SHEETS if sheet != ROW]
            for sheet in (*others, ("not", ROW), ("first", ROW), ("both", ROW, ROW), ("cases", (), ROW)):
                for holds in (True, False):
                    self.assertIs(self.takes(core, 0, values, holds, sheet), False)

    def test_true(self):
        self.check_taken(("true",), 0, {}, True, ROW)
        self.check_refused(("not", ("true",)), 0, {}, ROW)
        self.check_taken(("not", ("true",)), 0, {}, False, ("not", ROW))

    def test_compares(self):
        for sign, a, b, holds in (
            ("=", 1, 1, True), ("=", 1, 2, False), ("=", "a", "a", True), ("=", "a", "b", False), ("=", 1, "1", False),
            ("<", 1, 2, True), ("<", 2, 2, False), ("<=", 2, 2, True), ("<=", 3, 2, False),
        ):
            self.check_taken(("compare", sign, X, Y), 0, {"x": a, "y": b}, holds, ROW)

    def test_sums(self):
        self.check_taken(equal(("plus", X, num(2)), ("less", num(9), Y)), 0, {"x": 3, "y": 4}, True, ROW)
        self.check_taken(equal(("plus", X, num(2)), ("less", num(9), Y)), 0, {"x": 3, "y": 5}, False, ROW)

    def test_compares_that_are_not_known(self):
        for sign in ("<", "<="):
            for a, b in ((1, "a"), ("a", 1), ("a", "b"), ("a", "a")):
                self.check_refused(("compare", sign, X, Y), 0, {"x": a, "y": b}, ROW)
        for sign in ("=", "<", "<="):
            self.check_refused(("compare", sign, ("plus", X, num(1)), Y), 0, {"x": "a", "y": 1}, ROW)
            self.check_refused(("compare", sign, Y, ("less", num(1), X)), 0, {"x": "a", "y": 1}, ROW)
            self.check_refused(("compare", sign, ("less", X, X), ("less", X, X)), 0, {"x": "a"}, ROW)

    def test_points_that_are_not_in_the_log(self):
        for i in (-1, -5, 5, 6, 100):
            self.check_refused(("true",), i, {}, ROW)
            self.check_refused(p(X), i, {"x": 1}, ROW)
        self.assertIs(check_sheet(("true",), [], 0, {}, True, ROW), False)


class PartsTest(SheetCase):
    """Not, and, or, before and next."""

    def test_not(self):
        self.check_only(("not", GO), 0, {}, True, ("not", ROW))
        self.check_only(("not", GO), 1, {}, False, ("not", ROW))
        self.check_only(("not", ("not", GO)), 1, {}, True, ("not", ("not", ROW)))
        self.check_refused(("not", GO), 0, {}, ("not", ("not", ROW)), ROW)

    def test_and(self):
        core = ("and", p(X), q(X, Y))
        self.check_only(core, 0, {"x": 1, "y": 2}, True, ("both", ROW, ROW))
        self.check_only(core, 0, {"x": 1, "y": 1}, False, ("second", ROW))
        self.check_only(core, 2, {"x": 1, "y": 1}, False, ("first", ROW))
        self.check_only(core, 0, {"x": 3, "y": 3}, False, ("first", ROW), ("second", ROW))
        for sheet in (("first", ROW), ("second", ROW), ("both", ROW, ("not", ROW)), ("both", ("both", ROW, ROW), ROW)):
            self.assertIs(self.takes(core, 0, {"x": 1, "y": 2}, True, sheet), False)
            self.assertIs(self.takes(core, 0, {"x": 1, "y": 2}, False, sheet), False)
        self.assertIs(self.takes(core, 0, {"x": 1, "y": 1}, False, ("first", ROW)), False)
        self.assertIs(self.takes(core, 0, {"x": 3, "y": 3}, False, ("both", ROW, ROW)), False)

    def test_or(self):
        core = ("or", p(X), q(X, X))
        self.check_only(core, 0, {"x": 2}, True, ("first", ROW), ("second", ROW))
        self.check_only(core, 0, {"x": 1}, True, ("first", ROW))
        self.check_only(core, 2, {"x": 1}, True, ("second", ROW))
        self.check_only(core, 0, {"x": 3}, False, ("both", ROW, ROW))
        self.assertIs(self.takes(core, 0, {"x": 1}, True, ("second", ROW)), False)
        self.assertIs(self.takes(core, 0, {"x": 2}, True, ("both", ROW, ROW)), False)
        self.assertIs(self.takes(core, 0, {"x": 1}, False, ("both", ROW, ROW)), False)
        self.assertIs(self.takes(core, 0, {"x": 3}, False, ("first", ROW)), False)
        self.assertIs(self.takes(core, 0, {"x": 3}, False, ("both", ROW, ROW, ROW)), False)

    def test_before(self):
        core = ("before", 1, 5, GO)
        self.check_only(core, 0, {}, False, ("start",))
        self.check_only(core, 1, {}, False, ("there", ROW))
        # Not within the limits, and so whatever was there.
        self.check_only(core, 2, {}, False, ("apart",))
        self.check_refused(core, 2, {}, ("there", ROW), ("start",))
        self.check_only(("before", 0, 5, GO), 2, {}, True, ("there", ROW))
        self.check_only(core, 4, {}, False, ("apart",))
        self.check_only(core, 3, {}, False, ("there", ROW))
        self.check_refused(("before", 0, None, GO), 0, {}, ("there", ROW), ("apart",))
        self.check_refused(("before", 0, None, GO), 4, {}, ("apart",), ("start",))
        self.check_taken(("before", 0, None, GO), 4, {}, True, ("there", ROW))

    def test_before_apart_and_there(self):
        # Both show that it does not hold: the times are apart, and the rule did not hold there.
        self.check_only(("before", 4, None, GO), 1, {}, False, ("apart",), ("there", ROW))

    def test_next(self):
        core = ("next", 1, 5, GO)
        self.check_only(core, 0, {}, True, ("there", ROW))
        self.check_only(core, 1, {}, False, ("apart",), ("there", ROW))
        self.check_only(core, 2, {}, True, ("there", ROW))
        self.check_only(core, 3, {}, False, ("apart",), ("there", ROW))
        self.check_refused(core, 0, {}, ("apart",), ("start",), ("there", ("not", ROW)))
        # Nothing is known behind the last point.
        self.check_refused(core, 4, {}, ("apart",), ("there", ROW), ("start",))
        self.check_refused(("next", 0, None, ("not", GO)), 4, {}, ("there", ("not", ROW)))


class SpanTest(SheetCase):
    """Since and until; GO holds at 1 and 3, the times are 1, 4, 4, 9 and 20."""

    NOT_GO = ("not", GO)
    N = ("not", ROW)

    def test_since_that_holds(self):
        core = ("since", 0, None, self.NOT_GO, p(X))
        self.check_only(core, 2, {"x": 5}, True, ("from", 2, ROW, ()))
        self.check_only(("since", 0, None, ("true",), p(X)), 3, {"x": 1}, True, ("from", 0, ROW, (ROW, ROW, ROW)))
        self.check_only(core, 4, {"x": 1}, True, ("from", 4, ROW, ()))
        core = ("since", 0, None, self.NOT_GO, GO)
        self.check_only(core, 2, {}, True, ("from", 1, ROW, (self.N,)))
        self.check_only(core, 4, {}, True, ("from", 3, ROW, (self.N,)))
        for sheet in (
            ("from", 1, ROW, ()), ("from", 1, ROW, (self.N, self.N)), ("from", 1, ROW, (ROW,)), ("from", 2, ROW, ()),
            ("from", 0, ROW, (self.N, self.N)), ("from", 3, ROW, ()), ("from", -1, ROW, (self.N,)), ("from", 1, ROW, None),
            ("from", True, ROW, (self.N,)), ("from", "1", ROW, (self.N,)), ("from", None, ROW, (self.N,)),
            ("from", 1, None, (self.N,)), ("from", 1, ROW, self.N), ("from", 1, ROW), ("from", 1, ROW, (self.N,), 1),
            ("from", (1,), ROW, (self.N,)), ("none", 1, ROW, (self.N,)), ("from", 5, ROW, ()), ("from", 9, ROW, ()),
        ):
            self.assertIs(self.takes(core, 2, {}, True, sheet), False, sheet)
            self.assertIs(self.takes(core, 2, {}, False, sheet), False, sheet)

    def test_since_within_limits(self):
        for low, high, expected in ((0, 8, True), (8, 8, True), (8, None, True), (0, 7, False), (9, None, False)):
            core = ("since", low, high, ("true",), q(num(1), num(2)))
            self.assertIs(self.takes(core, 3, {}, True, ("from", 0, ROW, (ROW, ROW, ROW))), expected)

    def test_since_that_does_not_hold(self):
        core = ("since", 0, None, self.NOT_GO, p(X))
        # At 3 the first part fails, and from there on there was no p.
        self.check_only(core, 3, {"x": 5}, False, ("none", 3, self.N, (ROW,)))
        self.check_only(core, 3, {"x": 7}, False, ("none", 3, self.N, (ROW,)), ("none", 1, self.N, (ROW,) * 3),
                        ("none", -1, None, (ROW,) * 4))
        for sheet in (
            ("none", 3, self.N, ()), ("none", 3, self.N, (ROW, ROW)), ("none", 2, self.N, (ROW, ROW)),
            ("none", 2, ROW, (ROW, ROW)), ("none", 4, self.N, ()), ("none", -2, None, (ROW,) * 4),
            ("none", -1, ROW, (ROW,) * 4), ("none", -1, self.N, (ROW,) * 4), ("none", 3, None, (ROW,)),
            ("none", -1, None, (ROW,) * 3), ("none", -1, None, (ROW,) * 5), ("none", -1, None, None),
            ("none", None, None, (ROW,) * 4), ("none", False, self.N, (ROW,) * 4), ("none", 3, self.N, (self.N,)),
            ("none", True, self.N, (ROW,) * 3), ("none", "3", self.N, (ROW,)), ("none", 3, self.N), ("none",),
            ("from", 3, self.N, (ROW,)), ("none", 0, self.N, (ROW,) * 4),
        ):
            self.assertIs(self.takes(core, 3, {"x": 7}, False, sheet), False, sheet)
            self.assertIs(self.takes(core, 3, {"x": 7}, True, sheet), False, sheet)
        self.check_refused(core, 2, {"x": 5}, ("none", 2, self.N, (ROW,)), ("none", 1, self.N, (ROW, ROW)))

    def test_since_needs_sheets_within_the_limits_only(self):
        for low, high, many in ((0, 0, 1), (0, 4, 1), (0, 5, 3), (5, 8, 3), (6, 8, 1), (1, 4, 0), (9, None, 0), (5, 3, 0)):
            core = ("since", low, high, ("true",), ("event", "s", (("text", "a"),)))
            for count in range(5):
                sheet = ("none", -1, None, (ROW,) * count)
                self.assertIs(self.takes(core, 3, {}, False, sheet), count == many, (low, high, count))
        # Where the first part fails there need be no sheet of the second one, if it is not within the limits.
        core = ("since", 5, None, self.NOT_GO, ("event", "s", (("text", "a"),)))
        self.check_only(core, 3, {}, False, ("none", 3, self.N, ()), ("none", 1, self.N, (ROW, ROW)))

    def test_until_that_holds(self):
        core = ("until", 0, 20, self.NOT_GO, GO)
        self.check_only(core, 0, {}, True, ("from", 1, ROW, (self.N,)))
        self.check_only(core, 1, {}, True, ("from", 1, ROW, ()))
        self.check_only(core, 2, {}, True, ("from", 3, ROW, (self.N,)))
        for sheet in (
            ("from", 3, ROW, ()), ("from", 3, ROW, (self.N, self.N)), ("from", 2, ROW, ()), ("from", 1, ROW, ()),
            ("from", 5, ROW, (self.N,) * 3), ("from", -1, ROW, ()), ("from", True, ROW, (self.N,)), ("from", 3, ROW, ROW),
            ("from", 3, ROW, (ROW,)), ("from", 3, self.N, (self.N,)), ("from", "3", ROW, (self.N,)),
        ):
            self.assertIs(self.takes(core, 2, {}, True, sheet), False, sheet)
            self.assertIs(self.takes(core, 2, {}, False, sheet), False, sheet)
        for low, high, expected in ((0, 5, True), (5, 5, True), (0, 4, False), (6, 9, False), (5, None, True)):
            core = ("until", low, high, ("true",), GO)
            self.assertIs(self.takes(core, 2, {}, True, ("from", 3, ROW, (ROW,))), expected)

    def test_until_that_does_not_hold(self):
        core = ("until", 0, 10, self.NOT_GO, p(X))
        self.check_only(core, 0, {"x": 5}, False, ("none", 1, self.N, (ROW, ROW)))
        self.check_only(core, 0, {"x": 7}, False, ("none", 1, self.N, (ROW, ROW)), ("none", 3, self.N, (ROW,) * 4),
                        ("none", -1, None, (ROW,) * 4))
        for sheet in (
            ("none", 1, self.N, (ROW,)), ("none", 1, self.N, (ROW,) * 3), ("none", 0, self.N, (ROW,)),
            ("none", 2, self.N, (ROW,) * 3), ("none", -1, self.N, (ROW,) * 4), ("none", -1, None, (ROW,) * 5),
            ("none", True, self.N, (ROW, ROW)), ("none", 1, None, (ROW, ROW)), ("none", 5, self.N, (ROW,) * 4),
            ("none", -2, None, (ROW,) * 4), ("none", "1", self.N, (ROW, ROW)), ("none", None, None, (ROW,) * 4),
        ):
            self.assertIs(self.takes(core, 0, {"x": 7}, False, sheet), False, sheet)
            self.assertIs(self.takes(core, 0, {"x": 7}, True, sheet), False, sheet)

    def test_until_needs_a_point_beyond_the_end(self):
        s = ("event", "s", (("text", "a"),))
        for high, many, expected in ((18, 4, True), (19, 5, False), (30, 5, False), (None, 5, False), (8, 4, True)):
            core = ("until", 0, high, ("true",), s)
            self.assertIs(self.takes(core, 0, {}, False, ("none", -1, None, (ROW,) * many)), expected, high)
        # Where the first part fails no such point is needed.
        for high in (19, 30, None):
            core = ("until", 0, high, self.NOT_GO, s)
            self.check_only(core, 0, {}, False, ("none", 1, self.N, (ROW, ROW)), ("none", 3, self.N, (ROW,) * 4))
            self.check_only(core, 3, {}, False, ("none", 3, self.N, (ROW,)))

    def test_until_needs_sheets_within_the_limits_only(self):
        s = ("event", "s", (("text", "a"),))
        for low, high, many in ((0, 0, 1), (0, 3, 3), (3, 3, 2), (4, 8, 1), (4, 7, 0), (8, 3, 0)):
            for count in range(5):
                sheet = ("none", -1, None, (ROW,) * count)
                self.assertIs(self.takes(("until", low, high, ("true",), s), 0, {}, False, sheet), count == many)
        self.check_only(("until", 9, None, self.NOT_GO, s), 0, {}, False, ("none", 1, self.N, ()))


class SomeTest(SheetCase):
    """Some, and names that are other ones than some values."""

    def some(self, core):
        return ("some", "x.1", core)

    def test_some_that_holds(self):
        core = self.some(p(("name", "x.1")))
        self.check_only(core, 0, {}, True, ("with", 1, ROW), ("with", 2, ROW))
        self.check_refused(core, 0, {}, ("with", 3, ROW), ("with", True, ROW), ("with", None, ROW), ("with", (1,), ROW),
                           ("with", "1", ROW), ("with", 1, ROW, ROW), ("with", 1, None), ("with", ROW, 1),
                           ("with", False, ROW), ("with", ("num", 1), ROW))
        # Whatever is no value is not taken, even if it does not matter.
        core = self.some(GO)
        self.check_taken(core, 1, {}, True, ("with", 7, ROW), ("with", "", ROW), ("with", -10 ** 15, ROW))
        self.check_refused(core, 1, {}, ("with", None, ROW), ("with", True, ROW), ("with", (), ROW))

    def test_some_that_does_not_hold(self):
        core = self.some(p(("name", "x.1")))
        self.check_only(core, 1, {}, False, ("cases", (), ROW), ("cases", ((1, ROW),), ROW),
                        ("cases", ((1, ROW), ("a", ROW), (-1, ROW)), ROW))
        self.check_refused(core, 1, {}, ("cases", ((1, ROW), (1, ROW)), ROW), ("cases", ((True, ROW),), ROW),
                           ("cases", ((None, ROW),), ROW), ("cases", ((1, None),), ROW), ("cases", ((1,),), ROW),
                           ("cases", ((1, ROW, ROW),), ROW), ("cases", (1, ROW), ROW), ("cases", None, ROW),
                           ("cases", ROW, ROW), ("cases", ((1, ROW),), None), ("cases", (), ("not", ROW)),
                           ("cases", ((1, ("not", ROW)),), ROW), ("cases", (((), ROW),), ROW), ("cases", "", ROW),
                           ("cases", ((1, ROW), (2, ROW), (1, ROW)), ROW), ("cases", (ROW,), ROW), ("cases", ROW))
        self.check_refused(core, 0, {}, ("cases", (), ROW), ("cases", ((1, ROW), (2, ROW)), ROW),
                           ("cases", ((1, ROW),), ROW))

    def test_events_with_a_name_that_is_another_one(self):
        both = ("and", q(num(1), ("name", "x.1")), q(("name", "x.1"), num(1)))
        core = self.some(both)
        # For 2 the second event is not there, and for all others the first one is not.
        self.check_taken(core, 0, {}, False, ("cases", ((2, ("second", ROW)),), ("first", ROW)))
        self.check_taken(core, 0, {}, False, ("cases", ((2, ("second", ROW)), (5, ("first", ROW))), ("second", ROW)))
        for sheet in (("cases", (), ("first", ROW)), ("cases", ((1, ("first", ROW)),), ("first", ROW)),
                      ("cases", ((2, ("first", ROW)),), ("first", ROW)),
                      ("cases", ((2, ("second", ROW)),), ("both", ROW, ROW))):
            self.assertIs(self.takes(core, 0, {}, False, sheet), False, sheet)

    def test_an_event_with_one_name_twice(self):
        core = self.some(("and", q(("name", "x.1"), ("name", "x.1")), q(num(1), ("name", "x.1"))))
        self.check_taken(core, 2, {}, True, ("with", 1, ("both", ROW, ROW)))
        # At 0 the row (1, 2) has different values for the name, and so only 2 matters.
        core = self.some(("and", q(("name", "x.1"), ("name", "x.1")), GO))
        self.check_taken(core, 0, {}, False, ("cases", ((2, ("second", ROW)),), ("first", ROW)))
        self.assertIs(self.takes(core, 0, {}, False, ("cases", ((1, ("first", ROW)),), ("first", ROW))), False)

    def test_no_event_is_shown_for_a_name_without_a_value(self):
        core = self.some(("not", p(("name", "x.1"))))
        self.check_taken(core, 0, {}, True, ("with", 3, ("not", ROW)))
        self.check_refused(self.some(("not", GO)), 0, {}, ("cases", (), ("not", ROW)))
        self.check_taken(self.some(("not", GO)), 1, {}, False, ("cases", (), ("not", ROW)))

    def test_compares_with_a_name_that_is_another_one(self):
        x = ("name", "x.1")
        last = ("cases", ((3, ("second", ROW)),), ("first", ROW))
        for compare in (equal(x, num(3)), equal(num(3), x), equal(x, ("plus", num(1), num(2)))):
            core = self.some(("and", compare, p(x)))
            self.check_taken(core, 0, {}, False, last)
            for sheet in (("cases", (), ("first", ROW)), ("cases", ((4, ("first", ROW)),), ("first", ROW))):
                self.assertIs(self.takes(core, 0, {}, False, sheet), False, (compare, sheet))
        # The side of another name has a value.
        core = self.some(("and", equal(x, Y), GO))
        self.check_taken(core, 0, {"y": 3}, False, last)
        self.check_taken(core, 0, {"y": "a"}, False, ("cases", (("a", ("second", ROW)),), ("first", ROW)))
        self.assertIs(self.takes(core, 0, {"y": 4}, False, last), False)

    def test_compares_that_are_not_known(self):
        x = ("name", "x.1")
        for compare in (("compare", "<", x, num(3)), ("compare", "<=", x, x), equal(("plus", x, num(0)), num(3)),
                        equal(x, ("plus", x, num(1))), equal(("less", x, x), num(1))):
            core = self.some(("and", compare, GO))
            self.assertIs(self.takes(core, 0, {}, False, ("cases", ((3, ("second", ROW)),), ("first", ROW))), False)
            core = self.some(("and", ("not", compare), GO))
            self.assertIs(self.takes(core, 0, {}, False, ("cases", (), ("first", ("not", ROW)))), False)

    def test_the_same_name_twice(self):
        x = ("name", "x.1")
        self.check_taken(self.some(("not", equal(x, x))), 0, {}, False, ("cases", (), ("not", ROW)))
        core = self.some(("some", "y.2", ("not", equal(x, ("name", "y.2")))))
        self.check_refused(core, 0, {}, ("cases", (), ("cases", (), ("not", ROW))))

    def test_two_names(self):
        x, y = ("name", "x.1"), ("name", "y.2")
        core = self.some(("some", "y.2", ("and", q(x, y), equal(x, ("plus", y, num(1))))))
        rest = ("cases", (), ("first", ROW))
        ones = ("cases", ((2, ("second", ROW)),), ("first", ROW))
        self.check_taken(core, 0, {}, False, ("cases", ((1, ones), (2, ones)), rest))
        # The values of the names go by the rows: x is 1 or 2, and y is 2.
        self.assertIs(self.takes(core, 0, {}, False, ("cases", ((1, ones),), rest)), False)
        self.assertIs(self.takes(core, 0, {}, False, ("cases", ((1, ones), (2, rest)), rest)), False)
        # For all x but 3 the value 2 of y, which is that of all rows, makes another sum than x.
        others = ("cases", ((2, ("second", ROW)),), ("first", ROW))
        self.check_taken(core, 0, {}, False, ("cases", ((3, rest),), others))
        self.assertIs(self.takes(core, 0, {}, False, ("cases", (), others)), False)

    def test_the_values_stay(self):
        values = {"y": 3}
        core = self.some(("and", equal(("name", "x.1"), Y), GO))
        self.takes(core, 0, values, False, ("cases", ((3, ("second", ROW)),), ("first", ROW)))
        self.assertEqual(values, {"y": 3})


class GroupTest(SheetCase):
    """Point 8.5 and the rows of groups in 8.3 and 8.4."""

    X1, Y2 = ("name", "x.1"), ("name", "y.2")
    Y_ROW, N_ROW = ("yes", ROW), ("no", ROW)

    def count(self, core, names=()):
        return ("group", "n", "count", None, names, core)

    def test_groups_that_bind_no_names(self):
        core = self.count(GO)
        self.check_only(core, 1, {"n": 1}, True, ("group", self.Y_ROW))
        self.check_only(core, 1, {"n": 2}, False, ("group", self.Y_ROW))
        self.check_only(core, 0, {"n": 1}, False, ("group", self.N_ROW))
        self.check_only(core, 0, {"n": 0}, False, ("group", self.N_ROW))
        self.check_refused(core, 1, {"n": 1}, ("group", self.N_ROW), ("group", ROW), ("group", None), self.Y_ROW,
                           ("group", ("cases", (), self.Y_ROW)), ("group", ("yes", ROW, ROW)), ("group", ("yes",)),
                           ("group", ("yes", self.Y_ROW)), ("group", self.Y_ROW, self.Y_ROW), ("group", ("maybe", ROW)))
        self.check_refused(core, 0, {"n": 1}, ("group", self.Y_ROW))

    def test_functions(self):
        tree = ("cases", ((1, self.Y_ROW), (2, self.Y_ROW)), self.N_ROW)
        for function, y, value in (("count", None, 2), ("sum", "x.1", 3), ("least", "x.1", 1), ("most", "x.1", 2)):
            core = ("group", "n", function, y, (), p(self.X1))
            self.check_only(core, 0, {"n": value}, True, ("group", tree))
            for other in (0, value + 1, -value, str(value)):
                self.check_only(core, 0, {"n": other}, False, ("group", tree))
            self.check_only(core, 1, {"n": value}, False, ("group", ("cases", (), self.N_ROW)))

    def test_the_cases_of_a_tree(self):
        core = self.count(p(self.X1))
        good = ("cases", ((2, self.Y_ROW), (7, self.N_ROW), (1, self.Y_ROW), ("a", self.N_ROW)), self.N_ROW)
        self.check_only(core, 0, {"n": 2}, True, ("group", good))
        for cases in (
            ((1, self.Y_ROW),), ((1, self.Y_ROW), (2, self.N_ROW)), ((1, self.N_ROW), (2, self.N_ROW)), (),
            ((1, self.Y_ROW), (2, self.Y_ROW), (2, self.Y_ROW)), ((1, self.Y_ROW), (2, self.Y_ROW), (3, self.Y_ROW)),
            ((1, self.Y_ROW), (2, self.Y_ROW), (None, self.N_ROW)), ((1, self.Y_ROW), (2, self.Y_ROW), 3),
            ((1, self.Y_ROW), (2, self.Y_ROW), (True, self.N_ROW)), ((1, self.Y_ROW), (2, ROW)), None,
            ((1, self.Y_ROW), (2, self.Y_ROW), (3, self.N_ROW, 1)), ((True, self.Y_ROW), (2, self.Y_ROW)),
            ((1, self.Y_ROW), (2, ("cases", (), self.Y_ROW))),
        ):
            for n in (0, 1, 2, 3):
                self.check_refused(core, 0, {"n": n}, ("group", ("cases", cases, self.N_ROW)))
        for last in (self.Y_ROW, ROW, None, ("cases", (), self.N_ROW), ("no", ("not", ROW))):
            self.check_refused(core, 0, {"n": 2}, ("group", ("cases", good[1], last)))
        self.check_refused(core, 0, {"n": 2}, ("group", good, good), good, ("group", ("cases", good[1])))

    def test_names_go_in_ascending_order_of_strings(self):
        x10, x9 = ("name", "x.10"), ("name", "x.9")
        core = self.count(q(x9, x10))
        inner = {1: ("cases", ((1, self.N_ROW), (2, self.Y_ROW)), self.N_ROW), 2: ("cases", ((2, self.Y_ROW),), self.N_ROW)}
        # x.10 comes before x.9: its value is 2 in both rows.
        both = ("cases", ((1, self.Y_ROW), (2, self.Y_ROW)), self.N_ROW)
        rest = ("cases", (), self.N_ROW)
        self.check_only(core, 0, {"n": 2}, True, ("group", ("cases", ((2, both),), rest)))
        self.check_refused(core, 0, {"n": 2}, ("group", ("cases", ((1, inner[1]), (2, inner[2])), rest)))

    def test_a_yes_needs_values_for_all_names(self):
        core = self.count(("some", "y.2", ("and", p(("name", "y.2")), equal(self.X1, self.X1))))
        shown = ("with", 1, ("both", ROW, ROW))
        # The rule holds for any value of x.1, which is shown, but no value stands there.
        self.check_refused(core, 0, {"n": 1}, ("group", ("cases", (), ("yes", shown))))
        self.check_refused(core, 0, {"n": 1}, ("group", ("cases", ((1, ("yes", shown)),), ("yes", shown))))

    def test_y_is_a_number(self):
        r = ("event", "r", (("name", "v.1"), ("name", "w.2")))
        tree = ("cases", ((3, ("cases", (("a", self.Y_ROW),), self.N_ROW)),), ("cases", (), self.N_ROW))
        self.check_only(("group", "n", "sum", "v.1", (), r), 1, {"n": 3}, True, ("group", tree))
        for function in ("sum", "least", "most"):
            self.check_refused(("group", "n", function, "w.2", (), r), 1, {"n": "a"}, ("group", tree))
            self.check_refused(("group", "n", function, "w.2", (), r), 1, {"n": 3}, ("group", tree))
        self.check_only(self.count(r), 1, {"n": 1}, True, ("group", tree))

    def test_names_to_group_by(self):
        core = ("group", "n", "sum", "x.1", ("y",), q(self.X1, Y))
        tree = ("cases", ((1, self.Y_ROW), (2, self.Y_ROW)), self.N_ROW)
        self.check_only(core, 0, {"n": 3, "y": 2}, True, ("group", tree))
        self.check_only(core, 0, {"n": 4, "y": 2}, False, ("group", tree))
        self.check_only(core, 0, {"n": 3, "y": 1}, False, ("group", ("cases", (), self.N_ROW)))
        # The name y may be one to group by.
        core = ("group", "n", "sum", "y", ("y",), q(self.X1, Y))
        self.check_only(core, 0, {"n": 4, "y": 2}, True, ("group", tree))
        core = ("group", "n", "most", "y", ("x", "y"), q(X, Y))
        self.check_only(core, 0, {"n": 2, "x": 1, "y": 2}, True, ("group", self.Y_ROW))
        self.check_only(core, 0, {"n": 2, "x": 1, "y": 1}, False, ("group", self.N_ROW))

    def test_x_that_is_another_one(self):
        core = ("some", "n.5", ("and", ("group", "n.5", "count", None, (), p(self.X1)), GO))
        tree = ("group", ("cases", ((1, self.Y_ROW), (2, self.Y_ROW)), self.N_ROW))
        self.check_taken(core, 0, {}, False, ("cases", ((2, ("second", ROW)),), ("first", tree)))
        self.check_taken(core, 0, {}, False, ("cases", ((7, ("first", tree)), (2, ("second", ROW))), ("first", tree)))
        for sheet in (("cases", (), ("first", tree)), ("cases", ((3, ("second", ROW)),), ("first", tree)),
                      ("cases", ((2, ("first", tree)),), ("first", tree))):
            self.assertIs(self.takes(core, 0, {}, False, sheet), False, sheet)
        # Without a yes it holds for no value.
        empty = ("group", ("cases", (), self.N_ROW))
        self.check_taken(core, 1, {}, False, ("cases", (), ("first", empty)))
        # A group is not shown to hold for a name that is another one.
        core = ("some", "n.5", ("not", ("group", "n.5", "count", None, (), p(self.X1))))
        self.check_refused(core, 0, {}, ("cases", (), ("not", tree)), ("cases", ((2, ("not", tree)),), ("not", tree)))

    def test_a_name_to_group_by_that_is_another_one(self):
        core = ("some", "y.2", ("and", ("group", "n.5", "count", None, ("y.2",), q(self.X1, self.Y2)), GO))
        empty = ("group", ("cases", (), self.N_ROW))
        self.check_taken(core, 0, {"n.5": 2}, False, ("cases", ((2, ("second", ROW)),), ("first", empty)))
        self.assertIs(self.takes(core, 0, {"n.5": 2}, False, ("cases", (), ("first", empty))), False)


class RandomTest(unittest.TestCase):
    """Sheets at random, compared with the tables of the document word by word, and with what is so."""

    def check_sheet_of(self, core, log, i, values, holds, sheet):
        """Whether the sheet is taken, which must be as the document says."""
        found = check_sheet(core, log, i, values, holds, sheet)
        expected = PlainChecker(log).check(core, i, values, holds, sheet)
        self.assertIs(found, expected, (core, log, i, values, holds, sheet))
        return found

    def values_of(self, core, source):
        return {name: source.choice((-1, *NUMBERS, 3) if name[0] == "n" else WORDS) for name in free_names(core)}

    def check_is_so(self, core, log, i, values, holds):
        """What is shown in a log is so however it goes on."""
        end = log[-1][0]
        longer = [*log, *[(end + time, rows) for time, rows in random_log(random.Random(len(log)), 3)]]
        longer += [(longer[-1][0] + 100 * k, ()) for k in range(1, 12)]
        self.assertTrue(settled(core, tuple([time for time, _ in longer]), i))
        row = tuple([values[name] for name in free_names(core)])
        self.assertEqual(row in table_at(core, longer, i)[1], holds, (core, log, i, values))

    def test_sheets_of_forms_that_may_stand(self):
        source = random.Random(22)
        counts = {True: 0, False: 0}
        for _ in range(300):
            core = RandomCores(source).core(source.choice((1, 1, 2, 2, 3)))
            log = random_log(source, source.choice((1, 2, 3)), steps=(0, 1, 1, 2, 6))
            made = RandomSheets(source, log, NUMBERS, WORDS)
            for _ in range(40):
                i, holds = source.randrange(len(log)), source.random() < 0.5
                values = self.values_of(core, source)
                sheet = made.sheet(core, i, holds)
                found = self.check_sheet_of(core, log, i, values, holds, sheet)
                counts[found] += 1
                if found:
                    self.check_is_so(core, log, i, values, holds)
        self.assertGreater(counts[True], 1500)

    def test_sheets_that_are_wrong_in_some_places(self):
        source = random.Random(23)
        for _ in range(250):
            core = RandomCores(source).core(source.choice((1, 2, 2, 3)))
            log = random_log(source, source.choice((2, 4, 6)))
            times = tuple([time for time, _ in log])
            points = [i for i in range(len(log)) if settled(core, times, i)]
            for i in source.sample(points, min(2, len(points))):
                values = self.values_of(core, source)
                holds = tuple(values.values()) in table_at(core, log, i)[1]
                sheet = make_sheet(core, log, i, values, holds)
                for _ in range(25):
                    other = changed(source, sheet, (-1, 0, 1, 2, 3, "", "a"))
                    for claim in (True, False):
                        if self.check_sheet_of(core, log, i, values, claim, other):
                            self.check_is_so(core, log, i, values, claim)

    def test_rules_that_cannot_be_watched(self):
        source = random.Random(24)
        counts = {True: 0, False: 0}
        for _ in range(400):
            core = core_of(RandomRules(source, "xyz", {"d": ((), ("true",))}).rule(source.choice((1, 2, 3))),
                           {"d": ((), ("true",))})
            log = random_log(source, source.choice((1, 2, 3)), steps=(0, 1, 1, 2, 6))
            values = {name: source.choice(NUMBERS) for name in free_names(core)}
            made = RandomSheets(source, log, NUMBERS, WORDS)
            made.values = {letter: NUMBERS for letter in "xyzn"}
            for _ in range(20):
                i, holds = source.randrange(len(log)), source.random() < 0.5
                counts[self.check_sheet_of(core, log, i, values, holds, made.sheet(core, i, holds))] += 1
        self.assertGreater(counts[True], 500)

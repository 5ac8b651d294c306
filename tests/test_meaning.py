"""Points 4.4, 4.5, 5.3 and 5.4: the tables of core rules at the points of logs."""

import random
import unittest

from sheetwatch.core import core_of, free_names
from sheetwatch.judge import can_be_watched
from sheetwatch.logs import read_log
from sheetwatch.meaning import table_at
from sheetwatch.parser import parse_rule
from sheetwatch.tables import UNIT, make_table
from tests.plain import PlainMeaning, parts_of
from tests.watchable import EVENTS, RandomCores, random_log

NONE = ((), ())
LOG = """@1 p(1) p(2) q(1, 2) q(2, 2) r(4, "a")
@1 q(1, 2) q(3, 1) s("a") s("b")
@4 go() p(-5) p(1) q(1, 1)
@9 p(2) q(2, 3) r(4, "a") r(4, "b") r(7, "b")
@9
@30 go() p(2)
"""


class TableCase(unittest.TestCase):
    def table(self, text, i, log=LOG):
        return table_at(core_of(parse_rule(text), {}), read_log(log, EVENTS), i)

    def check_rows(self, text, i, columns, rows, log=LOG):
        self.assertEqual(self.table(text, i, log), (tuple(columns), tuple(rows)), (text, i))

    def check_points(self, text, points):
        """The points are those at which a rule without free names holds."""
        found = [i for i in range(6) if self.table(text, i) == UNIT]
        self.assertEqual(found, points, text)
        self.assertTrue(all(self.table(text, i) in (UNIT, NONE) for i in range(6)))


class FormsTest(TableCase):
    def test_events(self):
        self.check_rows("p(x)", 0, "x", [(1,), (2,)])
        self.check_rows("p(x)", 1, "x", [])
        self.check_rows("q(y, x)", 0, "xy", [(2, 1), (2, 2)])
        self.check_rows("q(x, x)", 0, "x", [(2,)])
        self.check_rows("q(x, 2)", 0, "x", [(1,), (2,)])
        self.check_rows("q(1, x)", 1, "x", [(2,)])
        self.check_rows('r(n, "b")', 3, "n", [(4,), (7,)])
        self.check_rows('r(4, "a")', 0, "", [()])
        self.check_rows('r(4, "b")', 0, "", [])
        self.check_points("go()", [2, 5])
        self.check_points("p(2)", [0, 3, 5])

    def test_compares_and_true(self):
        self.check_points("1 < 1 + 1", [0, 1, 2, 3, 4, 5])
        self.check_points('"a" = "b"', [])
        self.check_points("true", [0, 1, 2, 3, 4, 5])
        self.check_points("false", [])
        self.check_rows("x = 3", 0, "x", [(3,)])
        self.check_rows('"" = x', 0, "x", [("",)])

    def test_not(self):
        self.check_points("not go()", [0, 1, 3, 4])
        self.check_points("not some x . p(x)", [1, 4])

    def test_and(self):
        self.check_rows("p(x) and q(x, y)", 0, "xy", [(1, 2), (2, 2)])
        self.check_rows("q(x, y) and q(y, z)", 0, "xyz", [(1, 2, 2), (2, 2, 2)])
        self.check_rows("p(x) and p(y)", 0, "xy", [(1, 1), (1, 2), (2, 1), (2, 2)])
        self.check_rows("p(x) and y = 3", 0, "xy", [(1, 3), (2, 3)])

    def test_and_with_what_fits(self):
        self.check_rows("q(x, y) and x < y", 0, "xy", [(1, 2)])
        self.check_rows("x < y and q(x, y)", 1, "xy", [(1, 2)])
        self.check_rows("q(x, y) and not x = y", 0, "xy", [(1, 2)])
        self.check_rows("q(x, y) and not y <= x", 1, "xy", [(1, 2)])
        self.check_rows("p(x) and z = x + x", 0, "xz", [(1, 2), (2, 4)])
        self.check_rows("a = x - 10 and p(x)", 2, "ax", [(-15, -5), (-9, 1)])
        self.check_rows("q(x, y) and not q(y, x)", 0, "xy", [(1, 2)])
        self.check_rows("q(x, y) and not p(x)", 1, "xy", [(1, 2), (3, 1)])
        self.check_rows("not p(x) and q(x, y)", 0, "xy", [])
        self.check_rows("not p(1) and q(x, y)", 1, "xy", [(1, 2), (3, 1)])

    def test_or(self):
        self.check_rows("p(x) or q(x, x)", 2, "x", [(-5,), (1,)])
        self.check_rows("q(x, y) or q(y, x)", 1, "xy", [(1, 2), (1, 3), (2, 1), (3, 1)])
        self.check_points("go() or p(1)", [0, 2, 5])

    def test_some(self):
        self.check_rows("some y . q(x, y)", 0, "x", [(1,), (2,)])
        self.check_rows("some x . q(x, y)", 0, "y", [(2,)])
        self.check_points("some x, y . q(x, y)", [0, 1, 2, 3])

    def test_before_and_next(self):
        self.check_rows("before p(x)", 0, "x", [])
        self.check_rows("before p(x)", 1, "x", [(1,), (2,)])
        self.check_rows("before[1, *] p(x)", 1, "x", [])
        self.check_rows("before[5, 5] p(x)", 3, "x", [(-5,), (1,)])
        self.check_rows("before[0, 4] p(x)", 3, "x", [])
        self.check_rows("next p(x)", 5, "x", [])
        self.check_rows("next p(x)", 1, "x", [(-5,), (1,)])
        self.check_rows("next[3, 3] p(x)", 1, "x", [(-5,), (1,)])
        self.check_rows("next[0, 2] p(x)", 1, "x", [])
        self.check_points("before go()", [3])
        self.check_points("next go()", [1, 4])

    def test_since(self):
        self.check_rows("once p(x)", 3, "x", [(-5,), (1,), (2,)])
        self.check_rows("once[0, 5] p(x)", 3, "x", [(-5,), (1,), (2,)])
        self.check_rows("once[1, 5] p(x)", 3, "x", [(-5,), (1,)])
        self.check_rows("once[6, *] p(x)", 3, "x", [(1,), (2,)])
        self.check_rows("once[9, 8] p(x)", 3, "x", [])
        self.check_rows("p(x) since q(x, y)", 0, "xy", [(1, 2), (2, 2)])
        self.check_rows("p(x) since q(x, y)", 1, "xy", [(1, 2), (3, 1)])
        self.check_rows("p(x) since q(x, y)", 2, "xy", [(1, 1), (1, 2)])
        self.check_rows("p(x) since q(x, y)", 3, "xy", [(2, 3)])
        self.check_rows("not p(x) since q(x, y)", 2, "xy", [(1, 1), (2, 2), (3, 1)])
        self.check_rows("not p(x) since q(x, y)", 3, "xy", [(1, 1), (2, 3), (3, 1)])
        self.check_rows("not go() since p(x)", 4, "x", [(-5,), (1,), (2,)])
        self.check_rows("not go() since p(x)", 5, "x", [(2,)])
        self.check_points("not p(2) since go()", [2, 5])

    def test_until(self):
        self.check_rows("soon[0, 5] p(x)", 2, "x", [(-5,), (1,), (2,)])
        self.check_rows("soon[1, 5] p(x)", 2, "x", [(2,)])
        self.check_rows("soon[0, 100] p(x)", 4, "x", [(2,)])
        self.check_rows("p(x) until[0, 50] q(x, y)", 0, "xy", [(1, 2), (2, 2)])
        self.check_rows("not s(w) until[0, 50] r(n, w)", 0, "nw", [(4, "a")])
        self.check_rows("not s(w) until[1, 50] r(n, w)", 0, "nw", [])
        self.check_rows("not s(w) until[1, 50] r(n, w)", 2, "nw", [(4, "a"), (4, "b"), (7, "b")])
        self.check_rows("not go() until[0, 50] r(n, w)", 1, "nw", [])
        self.check_points("not p(2) until[0, 8] go()", [1, 2, 5])

    def test_groups(self):
        self.check_rows("n = count() of p(x)", 0, "n", [(2,)])
        self.check_rows("n = count() of p(x)", 1, "n", [])
        self.check_rows("n = count() of go()", 2, "n", [(1,)])
        self.check_rows("n = sum(x) of once p(x)", 2, "n", [(-2,)])
        self.check_rows("n = sum(y) of q(x, y)", 0, "n", [(4,)])
        self.check_rows("n = sum(y) of some x . q(x, y)", 0, "n", [(2,)])
        self.check_rows("n = least(y; x) of once q(x, y)", 3, "nx", [(1, 1), (1, 3), (2, 2)])
        self.check_rows("a = most(y; x) of once q(x, y)", 3, "ax", [(1, 3), (2, 1), (3, 2)])
        self.check_rows("n = count(; w) of r(x, w)", 3, "nw", [(1, "a"), (2, "b")])
        self.check_rows("n = sum(x; x, w) of r(x, w)", 3, "nwx", [(4, "a", 4), (4, "b", 4), (7, "b", 7)])
        self.check_rows("x = count() of p(x)", 0, "x", [(2,)])

    def test_times_that_stay(self):
        log = "@5 p(1)\n@5 p(2)\n@5 go()\n"
        self.check_rows("once[0, 0] p(x)", 2, "x", [(1,), (2,)], log)
        self.check_rows("once[1, *] p(x)", 2, "x", [], log)
        self.check_rows("soon[0, 0] p(x)", 0, "x", [(1,), (2,)], log)
        self.check_rows("not p(x) since[0, 0] p(x)", 2, "x", [(1,), (2,)], log)
        self.check_rows("p(x) since[0, 0] p(x)", 1, "x", [(2,)], log)
        self.check_rows("before[0, 0] p(x)", 1, "x", [(1,)], log)

    def test_the_log_stays(self):
        log = read_log(LOG, EVENTS)
        table_at(core_of(parse_rule("once p(x)"), {}), log, 3)
        self.assertEqual(log, read_log(LOG, EVENTS))


class PlainMeaningTest(unittest.TestCase):
    """Tables of rules at random, compared with the values for which the rules hold as point 4.4 says it."""

    NUMBERS = tuple(range(-5, 12))
    WORDS = ("", "a", "b", "other")

    def values(self, rule, log):
        """All values in tables of the rule and its parts."""
        found = []
        for part in parts_of(rule):
            found.extend(self.values(part, log))
        if can_be_watched(rule):
            for i in range(len(log)):
                found.extend([value for row in table_at(rule, log, i)[1] for value in row])
        return found

    def test_rules_at_random(self):
        source = random.Random(14)
        known = (*self.NUMBERS, *self.WORDS)
        compared = 0
        for _ in range(500):
            rule = RandomCores(source).core(source.choice((1, 2, 2, 3, 3)))
            log = random_log(source, source.choice((1, 2, 4)))
            free = free_names(rule)
            if len(free) <= 2 and all(value in known for value in self.values(rule, log)):
                compared += 1
                meaning = PlainMeaning(log, self.NUMBERS, self.WORDS)
                for i in range(len(log)):
                    rows = [tuple(values.values()) for values in meaning.choices(free)
                            if meaning.holds(rule, i, values)]
                    self.assertEqual(table_at(rule, log, i), make_table(free, rows), (rule, log, i))
        self.assertGreater(compared, 300)

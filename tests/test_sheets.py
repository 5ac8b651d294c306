"""Points 8.2 to 8.7, and 0.3 for sheets: the sheets that are made, and what is shown by those that are taken."""

import random
import unittest

from sheetwatch.check_sheet import check_sheet
from sheetwatch.core import core_of, free_names
from sheetwatch.judge import settled
from sheetwatch.logs import read_log
from sheetwatch.meaning import table_at
from sheetwatch.parser import parse, parse_rule
from sheetwatch.sheets import make_sheet
from tests.plain_sheets import PlainChecker
from tests.test_engine import is_plain
from tests.watchable import EVENTS, WORDS, RandomCores, random_log

ROW = ("row",)
LOG = """@1 p(1) p(2) q(1, 2) r(4, "a")
@1 q(1, 2) q(3, 1) s("a") s("b")
@4 go() p(-5) p(1) q(1, 1)
@9 p(2) q(2, 3) r(4, "a") r(4, "b") r(7, "b")
@9
@30 go() p(2)
@31
"""
RULES = (
    "p(x)", "q(x, x)", "q(x, 2)", "go()", "true", "false", "1 < 2", "2 < 1", "x = 3", 'w = "a"',
    "not go()", "not some x . p(x)", "not some x . q(x, x)", "not false",
    "p(x) and q(x, y)", "p(x) and not go()", "q(x, y) and x < y", "x <= y and q(x, y)", "q(x, y) and not x = y",
    "p(x) and z = x + x", "z = 5 - 1 and p(x)", "q(x, y) and not q(y, x)",
    "not p(x) and q(x, y)", "p(x) and x = x",
    "p(x) or q(x, x)", "go() or not go()", "q(x, y) or q(y, x)",
    "some y . q(x, y)", "some x, y . (q(x, y) and q(y, x))", "some x . (p(x) and some y . (q(x, y) and y < x))",
    "some x, y . (p(x) and y = x + 1 and q(x, y))", "some x . x = 4", "some x, y, z . (p(x) and p(y) and z = x - y)",
    "all x . (p(x) implies once q(x, x))", "all x, y . (q(x, y) implies p(x) and p(y))",
    "before p(x)", "before[1, 5] p(x)", "before[9, *] go()", "next p(x)", "next[0, 0] q(x, y)", "next not go()",
    "p(x) since q(x, y)", "not p(x) since q(x, y)", "not go() since[1, 5] p(x)", "once[3, 8] p(x)", "held[0, 8] not go()",
    "once q(x, y) and not p(x)", "not some y . q(x, y) since p(x)", "once[5, 2] p(x)",
    "p(x) until[0, 5] q(x, y)", "not s(w) until[0, 8] r(x, w)", "soon[1, 5] p(x)", "kept[0, 3] some x . p(x)",
    "not go() until[3, 9] p(x)", "soon[0, 0] q(x, x)",
    "n = count() of go()", "n = count() of p(x)", "n = sum(x) of once p(x)", "n = least(y; x) of once q(x, y)",
    "n = most(x; w) of r(x, w)", "n = count(; x, w) of r(x, w)", "n = sum(x; x) of once r(x, w)",
    "some n . (n = count(; x) of once q(x, y) and 1 < n)", "some x . (n = count(; x) of once q(x, y) and p(x))",
    "n = count() of m = count(; w) of once r(x, w)", "some w . n = sum(x; w) of r(x, w)",
    "some x . (p(x) or q(x, x))", "not some x . (p(x) and q(x, x) or q(x, x) and not p(x))",
    "some n . (n = count() of p(x) and p(n))", "not some n . (n = count() of p(x) and 1 < n)",
    "d(x)", "d(x) and not once[1, *] d(x)", "soon[0, 5] (d(x) and not before d(x))", "not some x . d(x)",
)
DEFS = {"d": parse("event q(number, number); def d(u) = some v . (q(u, v) and not q(v, u));")[1][2:]}


class MadeSheets(unittest.TestCase):
    def check_claims(self, core, log, i, values):
        """Checks the sheets for both claims, of which one is so, and returns that sheet."""
        row = tuple([values[name] for name in free_names(core)])
        holds = row in table_at(core, log, i)[1]
        before = repr((log, values))
        sheet = make_sheet(core, log, i, values, holds)
        self.assertIs(make_sheet(core, log, i, values, not holds), None, (core, i, values))
        self.assertEqual(repr((log, values)), before)
        self.assertTrue(is_plain(sheet))
        self.assertIs(check_sheet(core, log, i, values, holds, sheet), True, (core, log, i, values, sheet))
        self.assertIs(check_sheet(core, log, i, values, not holds, sheet), False)
        self.assertTrue(PlainChecker(log).check(core, i, values, holds, sheet))
        self.assertEqual(repr((log, values)), before)
        return holds, sheet

    def check_all_claims(self, core, log, choices):
        """Checks the claims for some choices of values at all points that are settled; returns how many held."""
        times = tuple([time for time, _ in log])
        counts = {True: 0, False: 0}
        for i in [i for i in range(len(log)) if settled(core, times, i)]:
            rows = [dict(zip(free_names(core), row)) for row in table_at(core, log, i)[1]]
            for values in [*rows, *choices]:
                holds, sheet = self.check_claims(core, log, i, values)
                counts[holds] += 1
                # It is so however the log goes on.
                longer = [*log, (log[-1][0], log[0][1]), (log[-1][0] + 50, log[0][1])]
                self.assertIs(check_sheet(core, longer, i, values, holds, sheet), True)
        return counts


class RulesTest(MadeSheets):
    def test_rules_of_all_forms(self):
        log = read_log(LOG, EVENTS)
        for text in RULES:
            core = core_of(parse_rule(text), DEFS)
            choices = []
            for number in (-6, 0, 1, 2, 3, 10 ** 12):
                for word in ("", "a", "b"):
                    choices.append({name: word if name == "w" else number for name in free_names(core)})
            numbers = [name for name in free_names(core) if name != "w"]
            choices += [{**choices[at], name: 4} for at in range(0, len(choices), 4) for name in numbers]
            counts = self.check_all_claims(core, log, choices)
            self.assertGreater(counts[True] + counts[False], 0, text)

    def test_rules_within_other_rules(self):
        log = read_log(LOG, EVENTS)
        for text in RULES:
            free = free_names(core_of(parse_rule(text), DEFS))
            numbers = [name for name in free if name != "w"]
            wraps = [f"m = count() of ({text})"]
            if free:
                wraps.append(f"not some {', '.join(free)} . ({text})")
                wraps.append(f"some {', '.join(reversed(free))} . ({text})")
                wraps.append(f"m = count(; {free[0]}) of ({text})")
                wraps.append(f"some {free[-1]} . ({text})")
                wraps.append(f"some m . ((m = count(; {free[-1]}) of ({text})) and 1 < m)")
                wraps.append(f"({text}) and not some {free[0]} . ({text})")
            if numbers:
                wraps.append(f"m = sum({numbers[-1]}) of ({text})")
                wraps.append(f"some {', '.join(free)} . (({text}) and {numbers[0]} < 0)")
                wraps.append(f"some {', '.join(free)} . (({text}) and not before[0, 5] ({text}))")
                wraps.append(f"some {', '.join(free)}, m . (({text}) and m = {numbers[0]} + 1 and p(m))")
            for wrap in wraps:
                core = core_of(parse_rule(wrap), DEFS)
                choices = [{name: "a" if name == "w" else number for name in free_names(core)} for number in (1, 2)]
                self.check_all_claims(core, log, choices)

    def test_words_alone(self):
        log = read_log('@1 s("a") s("%s")\n@2 s("")' % ("x" * 40), EVENTS)
        core = core_of(parse_rule("once s(w)"), {})
        counts = self.check_all_claims(core, log * 2, [{"w": word} for word in ("", "a", "b", "x" * 39, "x" * 40)])
        self.assertGreater(min(counts.values()), 2)

    def test_both_claims_come_up_for_all_forms(self):
        source = random.Random(25)
        counts = {}
        for _ in range(500):
            core = RandomCores(source).core(source.choice((1, 2, 3, 4)))
            log = random_log(source, source.choice((1, 3, 6)))
            times = tuple([time for time, _ in log])
            points = [i for i in range(len(log)) if settled(core, times, i)]
            for i in source.sample(points, min(3, len(points))):
                rows = table_at(core, log, i)[1]
                choices = [dict(zip(free_names(core), row)) for row in source.sample(rows, min(2, len(rows)))]
                for _ in range(3):
                    choices.append({name: source.choice((-1, 0, 1, 2, 3, 40) if name[0] == "n" else (*WORDS, "zz"))
                                    for name in free_names(core)})
                for values in choices:
                    holds, _ = self.check_claims(core, log, i, values)
                    counts[core[0], holds] = counts.get((core[0], holds), 0) + 1
        self.assertEqual({word for word, holds in counts if holds}, {
            "event", "compare", "true", "not", "and", "or", "some", "before", "next", "since", "until", "group",
        })
        self.assertEqual({word for word, holds in counts if not holds}, {
            "event", "compare", "not", "and", "or", "some", "before", "next", "since", "until", "group",
        })

    def test_long_logs(self):
        source = random.Random(26)
        log = random_log(source, 60, tuple(range(-3, 9)), ("a", "b", "c", "d"))
        log += [(log[-1][0] + 100, ())]
        for text in (
            "once some y . once q(x, y)", "p(x) and not once[1, *] p(x)", "n = count() of once q(x, y)",
            "some x, y, z . (once q(x, y) and once q(y, z) and once q(z, x))", "not go() since[0, 30] q(x, y)",
            "not q(x, x) until[0, 30] p(x)", "all x . (once p(x) implies some y . once q(x, y))",
            "n = sum(m) of m = count(; w) of once r(x, w)", "p(x) and not soon[1, 20] p(x)",
        ):
            core = core_of(parse_rule(text), {})
            for i in (0, 5, 40):
                rows = table_at(core, log, i)[1]
                choices = [dict(zip(free_names(core), row)) for row in source.sample(rows, min(2, len(rows)))]
                choices.append({name: 3 for name in free_names(core)})
                for values in choices:
                    self.check_claims(core, log, i, values)


class ExamplesTest(unittest.TestCase):
    def check_made(self, text, i, values, holds, *sheets):
        """One of the sheets is made."""
        sheet = make_sheet(core_of(parse_rule(text), DEFS), read_log(LOG, EVENTS), i, values, holds)
        self.assertIn(sheet, sheets)

    def test_sheets_without_a_choice(self):
        self.check_made("p(x)", 0, {"x": 1}, True, ROW)
        self.check_made("p(x)", 0, {"x": 1}, False, None)
        self.check_made("p(x)", 0, {"x": 3}, False, ROW)
        self.check_made("p(x)", 0, {"x": 3}, True, None)
        self.check_made("not go()", 0, {}, True, ("not", ROW))
        self.check_made("true", 0, {}, False, None)
        self.check_made("p(x) and q(x, y)", 0, {"x": 1, "y": 2}, True, ("both", ROW, ROW))
        self.check_made("p(x) and q(x, y)", 0, {"x": 2, "y": 2}, False, ("second", ROW))
        self.check_made("before p(x)", 0, {"x": 2}, False, ("start",))
        self.check_made("before[9, *] go()", 3, {}, False, ("apart",))
        self.check_made("next go()", 0, {}, False, ("there", ROW))
        self.check_made("some y . q(x, y)", 1, {"x": 3}, True, ("with", 1, ROW))
        self.check_made("not go() since p(x)", 2, {"x": 2}, False, ("none", 2, ("not", ROW), (ROW,)))
        self.check_made("n = count() of go()", 2, {"n": 1}, True, ("group", ("yes", ROW)))
        self.check_made("n = count() of go()", 2, {"n": 0}, False, ("group", ("yes", ROW)))
        self.check_made("n = count() of go()", 1, {"n": 0}, False, ("group", ("no", ROW)))

    def test_a_name_that_does_not_occur(self):
        log = read_log(LOG, EVENTS)
        core = ("some", "x.1", ("event", "go", ()))
        how, value, sheet = make_sheet(core, log, 2, {}, True)
        self.assertEqual((how, sheet), ("with", ROW))
        self.assertIn(type(value), (int, str))
        self.assertEqual(make_sheet(core, log, 0, {}, False), ("cases", (), ROW))

    def test_nothing_is_tied_to_what_is_passed(self):
        log = read_log(LOG, EVENTS)
        core = core_of(parse_rule("some y . (q(x, y) and not p(x))"), {})
        values = {"x": 1}
        make_sheet(core, log, 0, values, False)
        self.assertEqual((log, values), (read_log(LOG, EVENTS), {"x": 1}))

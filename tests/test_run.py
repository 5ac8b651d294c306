"""Points 9.1 and 9.2: what a watcher tells of a whole log as a text, and why."""

import random
import unittest

from sheetwatch import errors
from sheetwatch.check_sheet import check_sheet
from sheetwatch.logs import read_log, write_line
from sheetwatch.run import run_text, show_why
from sheetwatch.watcher import Watcher
from tests.test_watcher import ANSWERS, LOG, RULES
from tests.watchable import random_log

TOLD = """late @1 (point 0): ("ann")
many @1 (point 0): (1)
many @2 (point 1): (1)
late @2 (point 2): ("bob")
many @2 (point 2): (2)
calm @1 (point 0): (4)
calm @2 (point 2): (7)
many @6 (point 3): (2)
"""


class RunTest(unittest.TestCase):
    """Point 9.1."""

    def test_answers_with_rows(self):
        self.assertEqual(run_text(RULES, "\n".join(LOG)), TOLD)
        self.assertEqual(run_text(RULES, "\n".join(LOG) + "\n"), TOLD)

    def test_rows_and_values(self):
        rules = 'event r(number, word); event go(); watch w = r(x, v); watch g = go(); watch t = r(x, v) and a = "";'
        log = '@7 r(3, "b") r(-3, "a, (b)") go() r(3, "a")\n'
        self.assertEqual(run_text(rules, log), "\n".join([
            'w @7 (point 0): ("a", 3) ("a, (b)", -3) ("b", 3)', "g @7 (point 0): ()",
            't @7 (point 0): ("", "a", 3) ("", "a, (b)", -3) ("", "b", 3)', "",
        ]))

    def test_nothing_is_told(self):
        self.assertEqual(run_text(RULES, ""), "")
        self.assertEqual(run_text("", "@1\n@2\n"), "")
        self.assertEqual(run_text("event go(); watch w = go(); watch v = next go();", "@1\n@2\n"), "")

    def test_errors_of_rules(self):
        for rules, error in (
            ("watch w = ;", errors.Unexpected), ("watch w = go();", errors.UnknownName),
            ("event p(number); watch w = not p(x);", errors.NotWatchable), ("watch w = x = x;", errors.NoKind),
        ):
            with self.assertRaises(error):
                run_text(rules, "")
            # Errors of the rules come before those of the log.
            with self.assertRaises(error):
                run_text(rules, "bad")

    def test_errors_of_logs(self):
        for log in ("\n", "@1\n\n@2\n", "@1\n@2 nothing()", "@1 \n ", "@1\n@0 x"):
            with self.assertRaises(errors.BadLine, msg=log):
                run_text(RULES, log)
        for log in ("@1\n@0\n", "@1\n@0", "@2\n@1\nbad"):
            with self.assertRaises(errors.BadTime, msg=log):
                run_text(RULES, log)

    def test_all_answers_with_rows_are_told_in_order(self):
        source = random.Random(27)
        rules = """event p(number); event q(number, number); event r(number, word); event s(word); event go();
        watch b = q(x, y) and not once[1, *] q(y, x); watch a = soon[0, 4] r(x, w); watch c = next go();
        watch d = s(w) and n = count() of once s(v);"""
        for _ in range(30):
            log = random_log(source, 12)
            watcher = Watcher(rules)
            expected = ""
            for point in log:
                for name, i, time, _, rows in watcher.take(write_line(point)):
                    if rows:
                        shown = [", ".join([f'"{v}"' if isinstance(v, str) else str(v) for v in row]) for row in rows]
                        expected += f"{name} @{time} (point {i}): {' '.join([f'({row})' for row in shown])}\n"
            self.assertEqual(run_text(rules, "\n".join([write_line(point) for point in log])), expected)


class WhyTest(unittest.TestCase):
    """Point 9.2."""

    TEXT = "\n".join(LOG) + "\n"

    def check_why(self, name, i, values, holds):
        found = show_why(RULES, self.TEXT, name, i, values)
        self.assertIsInstance(found, tuple)
        is_so, sheet = found
        self.assertIs(is_so, holds)
        watcher = Watcher(RULES)
        core = dict(watcher.watches)[name]
        log = read_log(self.TEXT, watcher.events)
        self.assertIs(check_sheet(core, log, i, values, holds, sheet), True)
        self.assertIs(check_sheet(core, log, i, values, not holds, sheet), False)

    def test_all_answers_and_others(self):
        for name, i, _, columns, rows in [answer for answers in ANSWERS for answer in answers]:
            for row in rows:
                self.check_why(name, i, dict(zip(columns, row)), True)
            for value in ("ann", "bob", "") if name == "late" else (0, 1, 2, 4, 7, -1):
                self.check_why(name, i, {columns[0]: value}, (value,) in rows)

    def test_what_is_passed_stays(self):
        values = {"u": "ann"}
        show_why(RULES, self.TEXT, "late", 0, values)
        self.assertEqual(values, {"u": "ann"})

    def test_without_names_and_a_last_newline(self):
        rules = "event go(); watch w = not go(); watch v = soon[0, 1] go();"
        self.assertEqual(show_why(rules, "@1\n@5 go()", "w", 0, {}), (True, ("not", ("row",))))
        self.assertEqual(show_why(rules, "@1\n@5 go()", "w", 1, {}), (False, ("not", ("row",))))
        self.assertEqual(show_why(rules, "@1\n@5 go()", "v", 0, {}), (False, ("none", -1, None, (("row",),))))

    def test_errors(self):
        with self.assertRaises(errors.Unexpected):
            show_why("watch", "", "w", 0, {})
        with self.assertRaises(errors.NotWatchable):
            show_why("event p(number); watch w = not p(x);", "@1", "w", 0, {"x": 1})
        with self.assertRaises(errors.BadLine):
            show_why(RULES, "@1\nbad", "late", 0, {"u": ""})
        with self.assertRaises(errors.BadTime):
            show_why(RULES, "@1\n@0", "late", 0, {"u": ""})

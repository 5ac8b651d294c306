"""Points 0.3 and 0.5: the whole program, from texts of rules and logs to answers and sheets."""

import random
import unittest

from sheetwatch.check_sheet import check_sheet
from sheetwatch.errors import RuleError
from sheetwatch.logs import read_log
from sheetwatch.names import free_in
from sheetwatch.parser import parse_rule
from sheetwatch.printing import print_rule
from sheetwatch.run import run_text, show_why
from sheetwatch.watcher import Watcher
from tests.meanings import DOMAIN, Meaning, RandomRules, choices, random_log

HEAD = """event p(number); event q(number, number);
def d(a) = some b . q(a, b);
def e() = p(1);
def f(a, b) = q(b, a) and not d(a);
"""
DEFS = {
    "d": (("a",), parse_rule("some b . q(a, b)")),
    "e": ((), parse_rule("p(1)")),
    "f": (("a", "b"), parse_rule("q(b, a) and not d(a)")),
}


def line_of(time, rows):
    return " ".join([f"@{time}", *[f"{name}({', '.join([str(v) for v in row])})" for name, row in rows]])


class WholeTest(unittest.TestCase):
    def test_answers_are_the_plain_meaning_of_the_texts(self):
        source = random.Random(28)
        many = 0
        for _ in range(4000):
            rule = RandomRules(source, "xyz", DEFS).rule(source.choice((1, 2, 3, 4)))
            text = f"{HEAD}watch w = {print_rule(rule)};"
            try:
                watcher = Watcher(text)
            except RuleError:
                continue
            log = random_log(source, 4)
            # Behind the far points all that is told of the log is settled.
            far = [(log[-1][0] + 100 * k, []) for k in range(1, 8)]
            lines = [line_of(*point) for point in log + far]
            whole = "\n".join(lines) + "\n"
            cut = source.randrange(len(whole))
            answers = watcher.take_text(whole[:cut])
            other = Watcher(text)
            other.lay_back(watcher.save())
            answers.extend(other.take_text(whole[cut:]))
            self.assertEqual([i for _, i, *_ in answers], list(range(len(answers))))
            meaning = Meaning(log + far, free_in, DEFS)
            many += self.check_answers(text, whole, meaning, rule, answers[:4], source)
        self.assertGreater(many, 2000)

    def check_answers(self, text, log, meaning, rule, answers, source):
        """Checks answers with values of the domain, and a sheet; returns how many were checked."""
        free = free_in(rule)
        many = 0
        for _, i, time, columns, rows in answers:
            self.assertEqual((columns, time), (free, meaning.log[i][0]))
            if any(value not in DOMAIN for row in rows for value in row) or "group" in repr(rule):
                continue
            many += 1
            held = [tuple([values[name] for name in free]) for values in choices(free, {})
                    if meaning.holds(rule, i, values)]
            self.assertEqual(list(rows), held, (text, log, i))
            row = tuple([source.choice(DOMAIN) for _ in free])
            holds, sheet = show_why(text, log, "w", i, dict(zip(free, row)))
            self.assertIs(holds, row in rows)
            watcher = Watcher(text)
            points = read_log(log, watcher.events)
            self.assertIs(check_sheet(watcher.watches[0][1], points, i, dict(zip(free, row)), holds, sheet), True)
        return many

    def test_rules_nested_forty_deep(self):
        head = "event p(number); event go(); event q(number, number, number);"
        log = "@0 p(0) go() q(1, 2, 3)\n@1 p(1) q(1, 2, 3)\n@1 go()\n" + "@1000\n" * 45
        nested = "".join([f"some a{k}, b{k}, c{k} . (q(a{k}, b{k}, c{k}) and " for k in range(20)])
        for rule, values in (
            (" and ".join(["p(x)"] * 41), {"x": 0}), (" or ".join(["p(x)"] * 41), {"x": 1}),
            (" implies ".join(["go()"] * 41), {}), ("not " * 40 + "go()", {}), ("before " * 40 + "p(x)", {"x": 1}),
            ("next " * 40 + "p(x)", {"x": 1}), ("before next " * 20 + "p(x)", {"x": 1}),
            ("once[0, 0] " * 40 + "p(x)", {"x": 1}), ("held[1, 1] " * 40 + "go()", {}),
            ("p(x) since (" * 20 + "p(x)" + ")" * 20, {"x": 0}), (nested + "go()" + ")" * 20, {}),
            (nested.replace("some", "all").replace("and", "implies") + "go()" + ")" * 20, {}),
        ):
            text = f"{head} watch w = {rule};"
            run_text(text, log)
            watcher = Watcher(text)
            points = read_log(log, watcher.events)
            for i in (0, 1):
                holds, sheet = show_why(text, log, "w", i, values)
                self.assertIs(check_sheet(watcher.watches[0][1], points, i, values, holds, sheet), True, rule)

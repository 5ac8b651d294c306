"""Points 5.1 to 5.6: which core rules can be watched, how far they look, and when they are settled."""

import random
import unittest

from sheetwatch.core import core_of, free_names
from sheetwatch.judge import ahead, and_parts, back, can_be_watched, fits, settled
from sheetwatch.meaning import table_at
from sheetwatch.names import check_names
from sheetwatch.parser import parse_rule
from tests.meanings import RandomRules
from tests.plain import is_settled, parts_of
from tests.watchable import RandomCores, random_log

COMPARES = ("x = x", "x = y", "x < 1", "x <= y", "x + 1 = 2", "x = 1 + 1", "1 + 1 = x", "x - x = 0", "0 < x", "x + 0 = x")
TABLES = ("1 = 1", "1 < 0", '"a" = "b"', "1 + 2 = 4 - 1", "x = 1", '"a" = x', 'x = ""', "0 = x", "2 <= 3 - 1")


def core(text):
    """The core of a rule; a dot in a word stands for a bound name."""
    return core_of(parse_rule(text), {})


class WatchedTest(unittest.TestCase):
    """Point 5.1."""

    def check_all(self, texts, expected):
        for text in texts:
            self.assertIs(can_be_watched(core(text)), expected, text)

    def test_events_and_true(self):
        self.check_all(("p(x)", 'p(x, 3, "a", x)', "go()", "true"), True)

    def test_compares(self):
        self.check_all(TABLES, True)
        self.check_all(COMPARES, False)
        # A negative number is a sum.
        self.check_all(("x = 0 - 1",), False)

    def test_not(self):
        self.check_all(("not go()", "false", "not some x . p(x)", "not p(1)", "not not go()", "not 1 = 2"), True)
        self.check_all(("not p(x)", "not x = 1", "not not (p(x) and not q(x, y))", "not some x . q(x, y)"), False)
        self.check_all(("not some x . not p(x)", "not some x . x < 1", "not x < 1"), False)

    def test_and_of_two_rules_that_can_be_watched(self):
        self.check_all(("p(x) and q(y, z)", "go() and go()", "x = 1 and y = 2", "not go() and p(x)"), True)

    def test_and_with_a_rule_that_fits(self):
        self.check_all((
            "q(x, y) and x < y", "x < y and q(x, y)", "q(x, y) and not x <= y + 1", "not x = y and q(x, y)",
            "p(x) and x = x", "p(x) and y = x", "x + 1 = y and p(x)", "go() and x = 1 + 2", "p(x) and not q(x, x)",
            "not p(y) and q(x, y)", "q(x, y) and not x = 1", "p(x) and not (q(x, x) and p(x))", "p(x) and not go()",
        ), True)

    def test_and_that_cannot_be_watched(self):
        self.check_all((
            "x < y and y < x", "p(x) and x < y", "p(x) and not q(x, y)", "p(x) and not y = 1", "p(x) and y + 1 = x",
            "p(x) and y = y", "p(x) and y = z", "p(x) and y = y + x", "p(x) and y < x", "p(x) and not y = x",
            "not p(x) and not p(x)", "x = y and y = x", "p(x) and (x < 1 and x < 2)", "p(x) and (x < 1 or x < 2)",
            "p(x) and not (x < 1 and x < 2)", "p(x) and not not not x < 1 and y < 2", "not p(x) and x < 1",
        ), False)
        # A base that cannot be watched does not become one by what fits it.
        self.check_all(("x < y and not q(x, y)", "not go(x) and x = 1 + 2"), False)

    def test_or(self):
        self.check_all(("p(x) or q(x, x)", "go() or not go()", "q(x, y) or q(y, x)", "x = 1 or p(x)"), True)
        self.check_all((
            "p(x) or p(y)", "p(x) or go()", "q(x, y) or p(x)", "p(x) or x < 1", "p(x) or not p(x)", "x < 1 or x < 1",
        ), False)

    def test_some_before_and_next(self):
        for word in ("some x .", "some z .", "before", "next", "before[2, 3]", "next[0, *]", "before[5, 1]"):
            self.check_all((f"{word} p(x)", f"{word} q(x, y)", f"{word} go()"), True)
            self.check_all((f"{word} x < 1", f"{word} not p(x)", f"{word} (p(x) or p(y))"), False)

    def test_since_and_until(self):
        for word in ("since", "since[0, 5]", "since[2, *]", "until[0, 5]", "until[3, 2]"):
            self.check_all((
                f"go() {word} go()", f"p(x) {word} p(x)", f"p(x) {word} q(x, y)", f"not p(x) {word} q(x, y)",
                f"true {word} p(x)", f"not go() {word} p(x)", f"not not go() {word} go()", f"x = 1 {word} p(x)",
                f"not x = 1 {word} p(x)", f"(not (p(x) and x < 1)) {word} p(x)",
            ), True)
            self.check_all((
                f"p(x) {word} go()", f"q(x, y) {word} p(x)", f"not q(x, y) {word} p(x)", f"x < 1 {word} p(x)",
                f"not x < 1 {word} p(x)", f"go() {word} x < 1", f"go() {word} not p(x)", f"not p(y) {word} p(x)",
                f"(not not not p(x) or p(x)) {word} p(x)", f"p(x) {word} (p(x) or go())",
            ), False)

    def test_until_without_an_end(self):
        self.check_all(("go() until go()", "go() until[2, *] go()", "soon go()", "kept[1, *] go()"), False)
        self.check_all(("soon[0, 3] go()", "kept[1, 3] go()", "once go()", "held go()"), True)

    def test_groups(self):
        self.check_all((
            "n = count() of go()", "n = sum(x) of p(x)", "n = least(x; x) of q(x, y)", "n = most(y; x) of q(x, y)",
        ), True)
        self.check_all(("n = count() of x < 1", "n = sum(x) of not p(x)", "n = count() of soon p(x)"), False)

    def test_a_part_that_cannot_be_watched_counts_at_any_depth(self):
        for text in ("before {}", "some z . {}", "n = count() of {}", "{} and go()", "not some x . {}", "once {}"):
            self.assertTrue(can_be_watched(core(text.format("(p(x) and x < 1)"))), text)
            self.assertFalse(can_be_watched(core(text.format("(p(x) or x < 1)"))), text)

    def test_long_rules_take_no_long_time(self):
        rule = ("some", "x.1", ("not", ("compare", "<", ("name", "x.1"), ("num", 1))))
        for _ in range(38):
            rule = ("not", ("and", ("event", "go", ()), rule))
        self.assertFalse(can_be_watched(rule))


class FitsTest(unittest.TestCase):
    """Point 5.2."""

    def check_fits(self, text, names, expected):
        self.assertIs(fits(core(text), names), expected, (text, names))

    def test_compares_with_all_names(self):
        for text in ("x < y", "x = y", "x + 1 <= y - x", "y = y", "1 = 2", "x = 3"):
            for names in (("x", "y"), ("a", "x", "y", "z")):
                self.check_fits(text, names, True)
                self.check_fits(f"not ({text})", names, True)
        for text in ("x < z", "x + z = y", "z <= z"):
            self.check_fits(text, ("x", "y"), False)
            self.check_fits(f"not ({text})", ("x", "y"), False)

    def test_compares_that_tell_a_name(self):
        for text in ("z = x", "x = z", "z = x + y", "x - 1 = z", "z = 3", '"a" = z', "z = 1 + 1"):
            self.check_fits(text, ("x", "y"), True)
            self.check_fits(f"not ({text})", ("x", "y"), False)
        for text in ("z = z", "z = z + x", "z = w", "z < x", "z <= 3", "z + 1 = x", "z = x + w", "z + x = x + z"):
            self.check_fits(text, ("x", "y"), False)
        self.check_fits("z = 3", (), True)
        self.check_fits("z = x", (), False)

    def test_nots(self):
        for text in ("not p(x)", "not q(x, y)", "not go()", "not (p(x) and x < 1)", "not not not go()", "not once p(y)"):
            self.check_fits(text, ("x", "y"), True)
        for text in ("not p(z)", "not q(x, z)", "not not p(x)", "not (x < 1 and x < 2)", "not (p(x) or p(y))",
                     "not soon p(x)"):
            self.check_fits(text, ("x", "y"), False)
        self.assertTrue(fits(("not", ("not", core("go()"))), ()))
        self.assertFalse(fits(("not", ("not", core("p(x)"))), ("x",)))
        self.check_fits("not go()", (), True)
        self.check_fits("not p(x)", (), False)

    def test_other_rules_fit_none(self):
        for text in ("p(x)", "true", "go()", "p(x) and x < 1", "x < 1 and x < 2", "x < 1 or x < 2", "once p(x)",
                     "n = count() of go()", "some x . p(x)", "before go()", "not not x < 1 and not p(x)"):
            self.check_fits(text, ("n", "x", "y"), False)


class AndPartsTest(unittest.TestCase):
    def check_parts(self, one, other, how, base_is_first=True):
        one, other = core(one), core(other)
        expected = (how, one, other) if base_is_first else (how, other, one)
        self.assertEqual(and_parts(("and", one, other)), expected)

    def test_joins(self):
        self.check_parts("p(x)", "q(x, y)", "join")
        self.check_parts("p(x)", "not go()", "join")
        self.check_parts("not go()", "p(x)", "join")
        self.check_parts("p(x)", "x = 1", "join")
        self.check_parts("1 = 2", "p(x)", "join")
        self.check_parts("go()", "go()", "join")

    def test_fits(self):
        for text in ("x < 1", "y = x + 1", "not x = 1", "not p(x)", "x = x", "y = 1 + 1", "not x < 1"):
            self.check_parts("p(x)", text, "fit")
            self.check_parts(text, "p(x)", "fit", False)
        self.check_parts("not p(x)", "p(x)", "fit", False)

    def test_what_is_passed_stays(self):
        rule = ("and", core("p(x)"), core("x < 1"))
        and_parts(rule)
        self.assertEqual(rule, ("and", core("p(x)"), core("x < 1")))


class ListedTest(unittest.TestCase):
    """Cores at random, compared with the list of the document word by word."""

    def watched(self, rule):
        word, parts = rule[0], parts_of(rule)
        free = set(free_names(rule))
        if word in ("event", "true"):
            return True
        if word == "compare":
            sides = sorted([rule[2][0], rule[3][0]])
            return not free or rule[1] == "=" and sides in (["name", "num"], ["name", "text"])
        if word == "not":
            return self.watched(parts[0]) and not free
        if word in ("some", "before", "next", "group"):
            return self.watched(parts[0])
        one, other = parts
        a, b = set(free_names(one)), set(free_names(other))
        if word == "and":
            if self.watched(one) and self.watched(other):
                return True
            return self.watched(one) and self.fitting(other, a) or self.watched(other) and self.fitting(one, b)
        if word == "or":
            return self.watched(one) and self.watched(other) and a == b
        if word == "until" and rule[2] is None or not self.watched(other) or not a <= b:
            return False
        return self.watched(one) or one[0] == "not" and self.watched(one[1])

    def fitting(self, rule, names):
        free = set(free_names(rule))
        if rule[0] == "compare" or rule[0] == "not" and rule[1][0] == "compare":
            if free <= names:
                return True
        if rule[0] == "compare" and rule[1] == "=":
            for side, term in (rule[2:], rule[:1:-1]):
                inner = set(free_names(("compare", "=", term, term)))
                if side[0] == "name" and side[1] not in names and inner <= names:
                    return True
        return rule[0] == "not" and self.watched(rule[1]) and free <= names

    def check_rule(self, rule, source):
        self.assertIs(can_be_watched(rule), self.watched(rule), rule)
        names = tuple(sorted(source.sample("xyz", source.randrange(4))))
        self.assertIs(fits(rule, names), self.fitting(rule, set(names)), (rule, names))
        if rule[0] == "and" and self.watched(rule):
            _, one, other = rule
            if self.watched(one) and self.watched(other):
                expected = ("join", one, other)
            else:
                expected = ("fit", one, other) if self.watched(one) else ("fit", other, one)
            self.assertEqual(and_parts(rule), expected)
        for look, words in ((back, ("before", "since")), (ahead, ("next", "until"))):
            self.assertEqual(look(rule), self.far(rule, words), rule)
        for part in parts_of(rule):
            self.check_rule(part, source)

    def far(self, rule, words):
        found = [self.far(part, words) for part in parts_of(rule)]
        if None in found:
            return None
        far = max(found, default=0)
        if rule[0] in words:
            return None if rule[2] is None else far + rule[2]
        return far

    def test_rules_at_random(self):
        source = random.Random(11)
        counts = {True: 0, False: 0}
        for _ in range(2500):
            text = RandomRules(source, "xyz", {"d": ((), ("true",))}).rule(source.choice((1, 2, 3, 4)))
            rule = core_of(text, {"d": ((), ("true",))})
            self.check_rule(rule, source)
            counts[can_be_watched(rule)] += 1
        self.assertGreater(min(counts.values()), 300)

    def test_rules_that_can_be_watched(self):
        source = random.Random(12)
        for _ in range(400):
            rule = RandomCores(source).core(source.choice((2, 3, 4)))
            self.assertIs(can_be_watched(rule), True, rule)
            self.check_rule(rule, source)


class ReachTest(unittest.TestCase):
    """Point 5.5."""

    def check_reach(self, text, expected_back, expected_ahead):
        self.assertEqual((back(core(text)), ahead(core(text))), (expected_back, expected_ahead), text)

    def test_rules_of_one_point(self):
        for text in ("p(x)", "x < 1", "true", "not go()", "p(x) and q(x, y)", "some x . p(x)", "n = count() of go()"):
            self.check_reach(text, 0, 0)

    def test_limits(self):
        self.check_reach("before[1, 5] go()", 5, 0)
        self.check_reach("before go()", None, 0)
        self.check_reach("next[1, 5] go()", 0, 5)
        self.check_reach("next go()", 0, None)
        self.check_reach("go() since[2, 3] go()", 3, 0)
        self.check_reach("go() since go()", None, 0)
        self.check_reach("go() until[2, 3] go()", 0, 3)
        self.check_reach("go() until go()", 0, None)
        self.check_reach("before[7, 5] go()", 5, 0)

    def test_nested_limits(self):
        self.check_reach("once[0, 5] before[0, 3] go()", 8, 0)
        self.check_reach("once[0, 5] soon[0, 3] go()", 5, 3)
        self.check_reach("soon[0, 5] (once[0, 3] go() and next[0, 2] go())", 3, 7)
        self.check_reach("once[0, 5] go() or not once[0, 9] go()", 9, 0)
        self.check_reach("(once[0, 4] go()) since[0, 10] soon[0, 3] go()", 14, 3)
        self.check_reach("(soon[0, 4] go()) until[0, 10] soon[0, 3] go()", 0, 14)
        self.check_reach("n = count() of some x . soon[0, 3] before[0, 2] p(x)", 2, 3)

    def test_no_bound_goes_on(self):
        self.check_reach("once[0, 5] before go()", None, 0)
        self.check_reach("once before[0, 5] go()", None, 0)
        self.check_reach("go() and soon[0, 5] not once go()", None, 5)
        self.check_reach("n = count() of next soon[0, 5] p(x)", 0, None)
        self.check_reach("once[0, 100000000000] once[0, 1] go()", 100000000001, 0)


class SettledTest(unittest.TestCase):
    """Point 5.6."""

    def check_settled(self, text, times, expected):
        """Expected is the number of points at which the rule is settled."""
        found = [i for i in range(-2, len(times) + 3) if settled(core(text), times, i)]
        self.assertEqual(found, list(range(expected)), (text, times))

    def test_rules_of_one_point(self):
        for text in ("go()", "x < 1", "true", "not go()", "p(x) and q(x, y)", "p(x) or p(y)", "some x . p(x)",
                     "n = count() of go()", "before go()", "go() since go()", "before[5, 9] go()"):
            for times in ((), (3,), (3, 3), (1, 5, 9)):
                self.check_settled(text, times, len(times))

    def test_next(self):
        self.check_settled("next go()", (), 0)
        self.check_settled("next go()", (1,), 0)
        self.check_settled("next go()", (1, 1, 7), 2)
        self.check_settled("next[0, 1] go()", (1, 9, 99), 2)
        self.check_settled("next next go()", (1, 1, 7), 1)
        self.check_settled("next next next next go()", (1, 1, 7), 0)

    def test_before(self):
        self.check_settled("before next go()", (), 0)
        self.check_settled("before next go()", (4,), 1)
        self.check_settled("before next go()", (4, 4), 2)
        self.check_settled("before next next go()", (4, 4), 1)
        self.check_settled("before next next go()", (4, 4, 5), 2)
        self.check_settled("before before next next next go()", (4, 4, 5), 2)
        self.check_settled("next before go()", (4, 4, 5), 2)

    def test_until(self):
        self.check_settled("go() until[0, 3] go()", (1, 4), 0)
        self.check_settled("go() until[0, 3] go()", (1, 4, 4), 0)
        self.check_settled("go() until[0, 3] go()", (1, 5), 1)
        self.check_settled("go() until[0, 3] go()", (1, 1, 2, 5), 2)
        self.check_settled("go() until[0, 3] go()", (1, 1, 2, 5, 9), 4)
        self.check_settled("go() until[2, 0] go()", (1, 1, 2, 5, 9), 4)
        self.check_settled("soon[0, 0] go()", (1, 1, 2), 2)
        self.check_settled("go() until go()", (1, 1, 2), 0)
        self.check_settled("soon[5, *] go()", (1, 1, 2), 0)
        # Nothing is before the first point, whatever is told of it.
        self.check_settled("before soon go()", (1, 1, 2), 1)

    def test_until_with_parts_that_are_not_settled(self):
        self.check_settled("soon[0, 3] next go()", (1, 5), 1)
        self.check_settled("soon[0, 3] next next go()", (1, 5), 0)
        self.check_settled("soon[0, 3] next next go()", (1, 5, 6), 1)
        self.check_settled("soon[0, 3] soon[0, 3] go()", (0, 3, 4, 6), 0)
        self.check_settled("soon[0, 3] soon[0, 3] go()", (0, 3, 4, 6, 7), 1)
        self.check_settled("(next go()) until[0, 3] go()", (1, 4, 5), 1)
        self.check_settled("(next next go()) until[0, 3] go()", (1, 4, 5), 0)
        self.check_settled("(next next go()) until[0, 3] go()", (1, 4, 5, 5), 1)

    def test_parts_wait_for_each_other(self):
        self.check_settled("go() and next go()", (1, 2, 3), 2)
        self.check_settled("soon[0, 1] go() or go()", (1, 2, 3), 1)
        self.check_settled("go() since next next go()", (1, 2, 3), 1)
        self.check_settled("(next next go()) since go()", (1, 2, 3), 1)
        self.check_settled("n = count() of not next go()", (1, 2, 3), 2)

    def test_rules_at_random(self):
        source = random.Random(13)
        for _ in range(400):
            rule = RandomCores(source).core(source.choice((1, 2, 3, 4)))
            log = random_log(source, source.randrange(7))
            times = tuple([time for time, _ in log])
            for many in range(len(log) + 1):
                found = [settled(rule, times[:many], i) for i in range(many + 2)]
                self.assertEqual(found, [is_settled(rule, times[:many], i) for i in range(many + 2)])
                self.assertEqual(found, sorted(found, reverse=True))
                for i, is_so in enumerate(found):
                    if is_so:
                        self.assertTrue(settled(rule, times, i))
                        self.assertEqual(table_at(rule, log[:many], i), table_at(rule, log, i))

"""Points 2.3 and 2.4: cores, their numbers of bound names, and their free names."""

import random
import unittest

from sheetwatch.core import core_of, free_names
from sheetwatch.names import check_names, free_in
from sheetwatch.parser import parse_rule
from tests.meanings import Meaning, RandomRules, choices, random_log

GO = ("event", "go", ())
UP = ("event", "up", ())
TRUE = ("true",)


def name(word):
    return ("name", word)


def p(*words):
    """The event p with values that are names."""
    return ("event", "p", tuple([name(word) for word in words]))


def equal(value, param):
    return ("compare", "=", value, name(param))


class CoreCase(unittest.TestCase):
    def check_core(self, text, core, **defs):
        self.assertEqual(core_of(parse_rule(text), self.defs(defs)), core, text)

    def check_both(self, text, core, negated=None, **defs):
        """The core of the rule and that of its negation, which is a not of it if nothing else is told."""
        self.check_core(text, core, **defs)
        self.check_core(f"not ({text})", ("not", core) if negated is None else negated, **defs)
        self.check_core(f"not not ({text})", core, **defs)
        self.check_core(f"({text}) implies go()", ("or", ("not", core) if negated is None else negated, GO), **defs)

    def defs(self, texts):
        """The dict of defs; a text holds the params, a colon and the rule."""
        made = {}
        for word, text in texts.items():
            params, rule = text.split(":")
            made[word] = (tuple(params.split()), parse_rule(rule))
        return made


class FormsTest(CoreCase):
    """The rows of the table of point 2.4."""

    def test_events(self):
        self.check_both("go()", GO)
        self.check_both('p(x, 3, "x", x)', ("event", "p", (name("x"), ("num", 3), ("text", "x"), name("x"))))

    def test_compares(self):
        self.check_both("x = 3", ("compare", "=", name("x"), ("num", 3)))
        self.check_both("x < y", ("compare", "<", name("x"), name("y")))
        self.check_both('"a" <= x + 1 - y', (
            "compare", "<=", ("text", "a"), ("less", ("plus", name("x"), ("num", 1)), name("y")),
        ))

    def test_true_and_false(self):
        self.check_both("true", TRUE)
        self.check_both("false", ("not", TRUE), TRUE)

    def test_not(self):
        self.check_core("not go()", ("not", GO))
        self.check_core("not not go()", GO)
        self.check_core("not not not go()", ("not", GO))
        self.check_core("not not not false", TRUE)

    def test_and_or(self):
        self.check_both("go() and up()", ("and", GO, UP))
        self.check_both("go() or up()", ("or", GO, UP))
        self.check_both("go() and not (up() or false)", ("and", GO, ("not", ("or", UP, ("not", TRUE)))))

    def test_implies(self):
        self.check_both("go() implies up()", ("or", ("not", GO), UP), ("and", GO, ("not", UP)))
        self.check_both("not go() implies not up()", ("or", GO, ("not", UP)), ("and", ("not", GO), UP))
        self.check_both(
            "go() implies up() implies go()",
            ("or", ("not", GO), ("or", ("not", UP), GO)),
            ("and", GO, ("and", UP, ("not", GO))),
        )
        self.check_both(
            "(go() implies up()) implies go()",
            ("or", ("and", GO, ("not", UP)), GO),
            ("and", ("or", ("not", GO), UP), ("not", GO)),
        )

    def test_before_and_next(self):
        for word in ("before", "next"):
            self.check_both(f"{word} go()", (word, 0, None, GO))
            self.check_both(f"{word}[2, 5] not go()", (word, 2, 5, ("not", GO)))
            self.check_both(f"{word}[2, *] false", (word, 2, None, ("not", TRUE)))

    def test_since_and_until(self):
        for word in ("since", "until"):
            self.check_both(f"go() {word} up()", (word, 0, None, GO, UP))
            self.check_both(f"(not go()) {word}[1, 5] not not up()", (word, 1, 5, ("not", GO), UP))

    def test_once_and_soon(self):
        for word, form in (("once", "since"), ("soon", "until")):
            self.check_both(f"{word} go()", (form, 0, None, TRUE, GO))
            self.check_both(f"{word}[1, 5] not go()", (form, 1, 5, TRUE, ("not", GO)))

    def test_held_and_kept(self):
        for word, form in (("held", "since"), ("kept", "until")):
            once_not = (form, 0, None, TRUE, ("not", GO))
            self.check_both(f"{word} go()", ("not", once_not), once_not)
            self.check_both(f"{word}[3, 4] not go()", ("not", (form, 3, 4, TRUE, GO)), (form, 3, 4, TRUE, GO))
            self.check_both(
                f"{word} {word}[1, *] go()",
                ("not", (form, 0, None, TRUE, (form, 1, None, TRUE, ("not", GO)))),
                (form, 0, None, TRUE, (form, 1, None, TRUE, ("not", GO))),
            )

    def test_some(self):
        self.check_both("some x. p(x)", ("some", "x.1", p("x.1")))
        self.check_both("some y, x. p(x, y)", ("some", "y.1", ("some", "x.2", p("x.2", "y.1"))))
        self.check_both("some x. not p(y)", ("some", "x.1", ("not", p("y"))))

    def test_all(self):
        self.check_both("all x. p(x)", ("not", ("some", "x.1", ("not", p("x.1")))), ("some", "x.1", ("not", p("x.1"))))
        inner = ("some", "y.1", ("some", "x.2", ("and", p("y.1"), ("not", p("x.2")))))
        self.check_both("all y, x. (p(y) implies p(x))", ("not", inner), inner)
        inner = ("some", "x.1", ("some", "y.2", ("not", p("x.1", "y.2"))))
        self.check_both("all x. all y. p(x, y)", ("not", inner), inner)

    def test_groups(self):
        self.check_both("n = count() of go()", ("group", "n", "count", None, (), GO))
        self.check_both("n = count() of p(x)", ("group", "n", "count", None, (), p("x.1")))
        self.check_both("n = sum(y; x) of p(x, y)", ("group", "n", "sum", "y.1", ("x",), p("x", "y.1")))
        self.check_both("n = least(y; y, x) of p(x, y)", ("group", "n", "least", "y", ("y", "x"), p("x", "y")))
        self.check_both("n = most(n) of not p(n)", ("group", "n", "most", "n.1", (), ("not", p("n.1"))))

    def test_defs(self):
        defs = {"none": ": go() and not up()", "one": "x: p(x)", "two": "b a: p(a, b, a)"}
        self.check_both("none()", ("and", GO, ("not", UP)), **defs)
        self.check_both("one(y)", ("some", "x.1", ("and", p("x.1"), equal(name("y"), "x.1"))), **defs)
        self.check_both("one(3)", ("some", "x.1", ("and", p("x.1"), equal(("num", 3), "x.1"))), **defs)
        self.check_both('two("w", y)', ("some", "b.1", ("some", "a.2", ("and", (
            "and", p("a.2", "b.1", "a.2"), equal(("text", "w"), "b.1"),
        ), equal(name("y"), "a.2")))), **defs)

    def test_the_negation_of_a_def_is_a_not(self):
        self.check_both("none()", ("not", GO), none=": not go()")
        self.check_both("none()", ("not", TRUE), none=": false")
        self.check_both("none()", ("or", ("not", GO), UP), none=": go() implies up()")


class BoundNamesTest(CoreCase):
    """The numbers of bound names, and which names they stand for."""

    def test_from_the_outside_to_the_inside_and_from_left_to_right(self):
        self.check_core("(some x. p(x)) and some x, y. (p(x, y) and some x. p(x, y))", (
            "and", ("some", "x.1", p("x.1")), ("some", "x.2", ("some", "y.3", (
                "and", p("x.2", "y.3"), ("some", "x.4", p("x.4", "y.3")),
            ))),
        ))
        self.check_core("(all z. p(z)) since some z. p(z)", (
            "since", 0, None, ("not", ("some", "z.1", ("not", p("z.1")))), ("some", "z.2", p("z.2")),
        ))
        self.check_core("(some z. p(z)) implies some z. p(z)", (
            "or", ("not", ("some", "z.1", p("z.1"))), ("some", "z.2", p("z.2")),
        ))

    def test_hidden_names(self):
        self.check_core("p(x) and (some x. (p(x) and all x. p(x))) and p(x)", ("and", ("and", p("x"), (
            "some", "x.1", ("and", p("x.1"), ("not", ("some", "x.2", ("not", p("x.2"))))),
        )), p("x")))

    def test_terms(self):
        self.check_core("some x. x + y - x < 2 - x", ("some", "x.1", (
            "compare", "<", ("less", ("plus", name("x.1"), name("y")), name("x.1")), ("less", ("num", 2), name("x.1")),
        )))

    def test_groups_bind_in_ascending_order(self):
        self.check_core("n = count(; k) of p(z, b, k, Z, a1, a)", ("group", "n", "count", None, ("k",), (
            p("z.5", "b.4", "k", "Z.1", "a1.3", "a.2")
        )))
        self.check_core("n = sum(c) of some a. p(a, c, b)", (
            "group", "n", "sum", "c.2", (), ("some", "a.3", p("a.3", "c.2", "b.1")),
        ))

    def test_groups_in_groups(self):
        self.check_core("n = most(m; k) of m = count(; k) of p(k, m, n)", (
            "group", "n", "most", "m.1", ("k",), ("group", "m.1", "count", None, ("k",), p("k", "m.2", "n.3")),
        ))

    def test_groups_under_bound_names(self):
        self.check_core("some n, x. n = sum(y; x) of p(n, x, y)", ("some", "n.1", ("some", "x.2", (
            "group", "n.1", "sum", "y.4", ("x.2",), p("n.3", "x.2", "y.4"),
        ))))
        self.check_core("some y. n = sum(y) of p(y)", (
            "some", "y.1", ("group", "n", "sum", "y.2", (), p("y.2")),
        ))
        self.check_core("some y. n = sum(y; y) of p(y)", (
            "some", "y.1", ("group", "n", "sum", "y.1", ("y.1",), p("y.1")),
        ))

    def test_values_of_defs_stand_outside(self):
        self.check_core("some x. d(x, y)", ("some", "x.1", ("some", "y.2", ("some", "x.3", ("and", (
            "and", p("y.2", "x.3"), equal(name("x.1"), "y.2"),
        ), equal(name("y"), "x.3"))))), d="y x: p(y, x)")

    def test_defs_that_call_defs(self):
        inner = ("some", "a.3", ("and", p("a.3"), equal(name("b.2"), "a.3")))
        self.check_core("(some a. p(a)) or outer(a)", (
            "or", ("some", "a.1", p("a.1")), ("some", "b.2", ("and", inner, equal(name("a"), "b.2"))),
        ), outer="b: d(b)", d="a: p(a)")

    def test_each_call_counts_anew(self):
        self.check_core("d(x) and d(x)", ("and", *[
            ("some", f"a.{n}", ("and", ("some", f"x.{n + 1}", p(f"x.{n + 1}", f"a.{n}")), equal(name("x"), f"a.{n}")))
            for n in (1, 3)
        ]), d="a: some x. p(x, a)")

    def test_each_translation_counts_from_1(self):
        rule = parse_rule("some x. p(x)")
        self.assertEqual(core_of(rule, {}), core_of(rule, {}))

    def test_defs_stay(self):
        defs = {"d": (("x",), parse_rule("not p(x)"))}
        core_of(parse_rule("not d(3)"), defs)
        self.assertEqual(defs, {"d": (("x",), parse_rule("not p(x)"))})


class FreeNamesTest(unittest.TestCase):
    """free_names in points 2.3 and 2.4."""

    def test_forms(self):
        for core, names in (
            (TRUE, ()), (GO, ()), (p("y", "x", "y"), ("x", "y")), (("not", p("x")), ("x",)),
            (("event", "p", (("num", 3), ("text", "x"), name("z"))), ("z",)),
            (("compare", "<", ("plus", name("z"), name("b")), ("less", ("num", 1), name("a"))), ("a", "b", "z")),
            (("and", p("z"), p("a")), ("a", "z")), (("or", p("z"), p("a", "z")), ("a", "z")),
            (("since", 1, 2, p("z"), p("a")), ("a", "z")), (("until", 0, None, p("z"), TRUE), ("z",)),
            (("before", 1, 2, p("z")), ("z",)), (("next", 0, None, p("z")), ("z",)),
            (("some", "x.1", p("x.1", "y")), ("y",)), (("some", "x.1", p("y")), ("y",)),
            (("some", "x.1", ("some", "y.2", p("y.2", "x.1"))), ()),
            (("group", "n", "count", None, (), p("x.1")), ("n",)),
            (("group", "n", "sum", "y.1", ("x", "a"), p("x", "y.1", "a")), ("a", "n", "x")),
            (("group", "n", "sum", "y", ("y",), p("y")), ("n", "y")),
            (("and", ("some", "x.1", p("x.1")), p("x")), ("x",)),
        ):
            self.assertEqual(free_names(core), names, core)

    def test_parts_have_the_names_that_are_bound_outside(self):
        core = core_of(parse_rule("some x. n = sum(y; x) of p(x, y)"), {})
        self.assertEqual(free_names(core), ("n",))
        self.assertEqual(free_names(core[2]), ("n", "x.1"))
        self.assertEqual(free_names(core[2][5]), ("x.1", "y.2"))

    def test_long_rows(self):
        rule = parse_rule(" and ".join(["p(x)"] * 100) + " and x < " + " + ".join("abcd" * 40))
        self.assertEqual(free_names(core_of(rule, {})), tuple("abcdx"))


class RandomRulesTest(unittest.TestCase):
    """Rules at random: their names, their forms and their meaning."""

    FORMS = ("event", "compare", "true", "not", "and", "or", "some", "before", "next", "since", "until", "group")

    def setUp(self):
        self.source = random.Random(24)

    def random_defs(self):
        """Defs that may call those before them; their rules have no free names but their params."""
        defs = {"none": ((), ("not", ("call", "p", (("num", 1),))))}
        for word, params in (("d", ("x",)), ("e", ("y", "x"))):
            defs[word] = (params, RandomRules(self.source, params, defs).rule(2))
        return defs

    def each_rule(self, count, depth):
        for _ in range(count):
            defs = self.random_defs()
            rule = RandomRules(self.source, "xyz", defs).rule(depth)
            yield rule, defs, core_of(rule, defs)

    def test_names_and_forms(self):
        events = (("event", "p", ("number",)), ("event", "q", ("number", "number")))
        for rule, defs, core in self.each_rule(500, 4):
            items = [("def", word, *defs[word]) for word in defs]
            check_names((*events, *items, ("watch", "w", rule)))
            self.assertEqual(free_names(core), free_in(rule))
            bound = []
            self.walk(core, bound)
            self.assertEqual([int(word.partition(".")[2]) for word in bound], list(range(1, len(bound) + 1)))

    def walk(self, core, bound):
        self.assertIn(core[0], self.FORMS)
        if core[0] == "some":
            bound.append(core[1])
        elif core[0] == "group":
            bound.extend([word for word in free_names(core[5]) if word not in core[4]])
        if core[0] not in ("event", "compare"):
            for part in core[1:]:
                if isinstance(part, tuple) and part and isinstance(part[0], str) and part[0] in self.FORMS:
                    self.walk(part, bound)

    def test_meaning(self):
        for rule, defs, core in self.each_rule(300, 2):
            log = random_log(self.source, 3)
            before = Meaning(log, free_in, defs)
            after = Meaning(log, free_names, {})
            for values in choices(free_in(rule)[:2], {"x": 0, "y": 1, "z": 2}):
                for i in range(len(log)):
                    self.assertEqual(after.holds(core, i, values), before.holds(rule, i, values), (rule, core))

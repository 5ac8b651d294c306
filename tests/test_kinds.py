"""Point 2.5: the kinds of names, and the order and the words of WrongKind and NoKind."""

import unittest

from sheetwatch.core import core_of
from sheetwatch.errors import NoKind, WrongKind
from sheetwatch.kinds import kinds_of
from sheetwatch.parser import parse_rule

N = "number"
W = "word"
EVENTS = {"go": (), "p": (N,), "q": (W,), "r": (W, N)}


def core(text, defs=None):
    return core_of(parse_rule(text), defs or {})


class KindsCase(unittest.TestCase):
    def check_kinds(self, text, **kinds):
        """The kinds of the names, which are written with a _ instead of a dot."""
        expected = {name.replace("_", "."): kind for name, kind in kinds.items()}
        self.assertEqual(kinds_of(core(text), EVENTS), expected, text)

    def check_wrong(self, error, word, text):
        with self.assertRaises(error) as caught:
            kinds_of(core(text), EVENTS)
        self.assertIs(caught.exception.__class__, error)
        self.assertEqual(caught.exception.word, word, text)


class FirstKindsTest(KindsCase):
    def test_rules_without_names(self):
        for text in ("true", "false", "go()", "p(3)", 'r("a", 3)', "1 = 2", '"a" = "b"', "1 + 2 < 3 - 4", "1 = 2 + 3"):
            self.check_kinds(text)

    def test_values_of_events(self):
        self.check_kinds("p(x)", x=N)
        self.check_kinds("r(x, y)", x=W, y=N)
        self.check_kinds("p(x) and r(y, x)", x=N, y=W)

    def test_sums_and_comparisons(self):
        self.check_kinds("x + y = 3", x=N, y=N)
        self.check_kinds("3 = x - 1 + y - z", x=N, y=N, z=N)
        self.check_kinds("x < y", x=N, y=N)
        self.check_kinds("x <= 3", x=N)
        self.check_kinds("x + 1 <= y - z", x=N, y=N, z=N)

    def test_sides_of_equals(self):
        self.check_kinds("x = 3", x=N)
        self.check_kinds('"a" = x', x=W)
        self.check_kinds("x = y + 1", x=N, y=N)
        self.check_kinds("y - 1 = x", x=N, y=N)
        self.check_kinds("p(x) and x = y", x=N, y=N)
        self.check_kinds("q(x) and y = x", x=W, y=W)

    def test_kinds_come_in_rounds(self):
        self.check_kinds("x = y and q(y)", x=W, y=W)
        self.check_kinds("x = y and y = z and z = u and u = 3", x=N, y=N, z=N, u=N)
        self.check_kinds("a = b and c = d and e = c and b = e and q(d)", a=W, b=W, c=W, d=W, e=W)

    def test_groups(self):
        self.check_kinds("n = count() of q(x)", n=N, x_1=W)
        self.check_kinds("n = count(; x) of r(x, y)", n=N, x=W, y_1=N)
        self.check_kinds("n = sum(y; x) of r(x, y)", n=N, x=W, y_1=N)
        self.check_kinds("n = most(y) of y = z", n=N, y_1=N, z_2=N)
        self.check_kinds("m = n and n = least(y; y) of p(y)", m=N, n=N, y=N)

    def test_bound_names(self):
        self.check_kinds("some x. p(x) and q(x)", x_1=N, x=W)
        self.check_kinds("all x. (p(x) implies some x, y. r(x, y))", x_1=N, x_2=W, y_3=N)

    def test_all_forms_of_rules(self):
        for word in ("not", "before", "next", "once", "held[1, 2]", "soon", "kept"):
            self.check_kinds(f"{word} (p(x) and q(y))", x=N, y=W)
        for word in ("and", "or", "implies", "since", "until[2, 3]"):
            self.check_kinds(f"p(x) {word} q(y)", x=N, y=W)

    def test_defs(self):
        defs = {"d": (("x", "y"), parse_rule("x = y"))}
        self.assertEqual(kinds_of(core("d(a, 3)", defs), EVENTS), {"a": N, "x.1": N, "y.2": N})

    def test_what_was_returned_is_free(self):
        rule = core("p(x)")
        kinds_of(rule, EVENTS).clear()
        self.assertEqual(kinds_of(rule, EVENTS), {"x": N})
        self.assertEqual(EVENTS, {"go": (), "p": (N,), "q": (W,), "r": (W, N)})


class WrongKindTest(KindsCase):
    def test_values_of_events(self):
        self.check_wrong(WrongKind, "p", 'p("a")')
        self.check_wrong(WrongKind, "q", "q(3)")
        self.check_wrong(WrongKind, "r", 'r("a", "b")')
        self.check_wrong(WrongKind, "r", "r(1, 2)")
        self.check_wrong(WrongKind, "q", "p(x) and q(x)")
        self.check_wrong(WrongKind, "p", "q(x) and p(x)")
        self.check_wrong(WrongKind, "r", "r(x, x)")

    def test_sums(self):
        self.check_wrong(WrongKind, "+", '3 = 1 + "a"')
        self.check_wrong(WrongKind, "-", '3 = "a" - 1')
        self.check_wrong(WrongKind, "+", "q(x) and x + 1 = 3")
        self.check_wrong(WrongKind, "-", "q(x) and 1 - x < 3")
        self.check_wrong(WrongKind, "+", '1 = x + "a" - "b"')
        self.check_wrong(WrongKind, "-", '1 = x - "a" + "b"')
        self.check_wrong(WrongKind, "-", '1 = x + 2 - "b"')

    def test_less(self):
        for sign in ("<", "<="):
            self.check_wrong(WrongKind, sign, f'"a" {sign} 3')
            self.check_wrong(WrongKind, sign, f'3 {sign} "a"')
            self.check_wrong(WrongKind, sign, f"q(x) and x {sign} 3")
            self.check_wrong(WrongKind, sign, f"q(x) and 3 {sign} x")

    def test_equals(self):
        self.check_wrong(WrongKind, "=", '1 = "a"')
        self.check_wrong(WrongKind, "=", '"a" = 1')
        self.check_wrong(WrongKind, "=", '"a" = 1 + 1')
        self.check_wrong(WrongKind, "=", "p(x) and q(y) and x = y")
        self.check_wrong(WrongKind, "=", 'p(x) and "a" = x')
        self.check_wrong(WrongKind, "=", "q(x) and x = y - 1")

    def test_functions(self):
        for function in ("sum", "least", "most"):
            self.check_wrong(WrongKind, function, f"n = {function}(y) of q(y)")
            self.check_wrong(WrongKind, function, f"q(n) and n = {function}(y) of p(y)")
        self.check_wrong(WrongKind, "count", "q(n) and n = count() of go()")
        self.check_wrong(WrongKind, "most", "q(y) and n = most(y; y) of y = y")

    def test_the_order_in_a_compare(self):
        self.check_wrong(WrongKind, "<", '"a" < 1 + "b"')
        self.check_wrong(WrongKind, "<=", '"a" <= "b" - 1')
        self.check_wrong(WrongKind, "-", '1 - "b" < "a"')
        self.check_wrong(WrongKind, "+", '1 <= 1 + "b"')
        self.check_wrong(WrongKind, "+", '"a" = 1 + "b"')
        self.check_wrong(WrongKind, "-", '"a" - 1 = "b"')
        self.check_wrong(WrongKind, "-", '1 - "a" = 1 + "b"')

    def test_the_order_in_a_group(self):
        # The rule behind of comes first, both when kinds are given and when they are looked at.
        self.check_wrong(WrongKind, "sum", "n = sum(y) of (q(y) or q(y))")
        self.check_wrong(WrongKind, "p", "n = sum(y) of (q(y) and p(y))")
        self.check_wrong(WrongKind, "p", 'q(n) and n = count() of p("a")')

    def test_the_order_of_operators(self):
        for word in ("and", "or", "since", "until[0, 3]", "implies"):
            self.check_wrong(WrongKind, "p", f'p("a") {word} q(3)')
            self.check_wrong(WrongKind, "q", f'q(3) {word} p("a")')

    def test_the_first_place_gives_the_kind(self):
        self.check_wrong(WrongKind, "+", "q(x) and 1 = x + 1 and p(x)")
        self.check_wrong(WrongKind, "q", "1 = x + 1 and q(x)")
        self.check_wrong(WrongKind, "q", "x < 1 and q(x)")
        self.check_wrong(WrongKind, "q", "x = 1 and q(x)")
        self.check_wrong(WrongKind, "p", 'x = "a" and p(x)')
        self.check_wrong(WrongKind, "q", "(x = count() of go()) and q(x)")
        self.check_wrong(WrongKind, "count", "q(x) and (x = count() of go())")

    def test_a_kind_that_comes_later_in_a_round(self):
        # In the first round q comes before the = could tell x's kind to y; the = is then wrong itself.
        self.check_wrong(WrongKind, "=", "x = y and p(x) and q(y)")
        # Here the = tells it already in the first round.
        self.check_wrong(WrongKind, "q", "p(x) and x = y and q(y)")
        self.check_wrong(WrongKind, "q", "p(x) and y = x and q(y)")
        # x and z get theirs in the first round, and y the one of x in the second one.
        self.check_wrong(WrongKind, "=", "x = y and y = z and p(x) and q(z)")
        self.check_wrong(WrongKind, "q", "x = y and p(x) and (y = z and q(3) and z = y)")

    def test_the_sides_of_equals_are_known_by_now(self):
        # The inside of the right side gives y a kind before the sides are compared.
        self.check_kinds("y = y + 1", y=N)
        self.check_wrong(WrongKind, "q", "x = x - y and q(x)")


class NoKindTest(KindsCase):
    def test_free_names(self):
        self.check_wrong(NoKind, "x", "x = y")
        self.check_wrong(NoKind, "y", "y = x")
        self.check_wrong(NoKind, "x", "x = x")
        self.check_wrong(NoKind, "y", "p(x) and go() and y = z and x = 3")
        self.check_wrong(NoKind, "c", "(b = 3 and a = b) and (c = d or e = e)")

    def test_bound_names_lose_their_numbers(self):
        self.check_wrong(NoKind, "x", "some x. x = x")
        self.check_wrong(NoKind, "long_name1", "go() and all long_name1. long_name1 = long_name1")
        self.check_wrong(NoKind, "y", "n = count() of (p(x) and y = z)")

    def test_a_some_counts_if_its_name_does_not_occur(self):
        self.check_wrong(NoKind, "x", "some x. go()")
        self.check_wrong(NoKind, "x", "some x. y = z")
        self.check_wrong(NoKind, "y", "y = z and some x. go()")
        self.check_wrong(NoKind, "y", "some x, y, z. p(x)")
        self.check_wrong(NoKind, "x", "p(x) and all x. p(1)")

    def test_defs(self):
        defs = {"d": (("x", "y"), parse_rule("p(x)")), "e": (("z",), parse_rule("z = z"))}
        self.assertEqual(kinds_of(core("d(a, 3)", defs), EVENTS), {"a": N, "x.1": N, "y.2": N})
        for text, word in (("d(a, b)", "y"), ("e(a)", "z"), ("a = b and e(a)", "a")):
            with self.assertRaises(NoKind) as caught:
                kinds_of(core(text, defs), EVENTS)
            self.assertEqual(caught.exception.word, word, text)

    def test_parts_of_cores(self):
        equal = ("compare", "=", ("name", "x.1"), ("name", "x.2"))
        with self.assertRaises(NoKind) as caught:
            kinds_of(equal, EVENTS)
        self.assertEqual(caught.exception.word, "x")
        both = ("and", equal, ("event", "q", (("name", "x.1"),)))
        self.assertEqual(kinds_of(both, EVENTS), {"x.1": W, "x.2": W})

    def test_wrong_kinds_come_first(self):
        self.check_wrong(WrongKind, "q", "x = y and q(1)")
        self.check_wrong(WrongKind, "=", "(some x. go()) and 1 = \"a\"")

    def test_long_rows(self):
        rows = [f"x{i} = x{i + 1}" for i in range(100)]
        kinds = kinds_of(core(" and ".join(rows) + " and q(x100)"), EVENTS)
        self.assertEqual(kinds, {f"x{i}": W for i in range(101)})
        self.check_wrong(NoKind, "x0", " and ".join(rows))

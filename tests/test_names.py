"""Points 2.1 and 2.2: free names, and the order and the words of the errors in names."""

import unittest

from sheetwatch.errors import DoubleName, UnknownName, WrongCount
from sheetwatch.names import check_names, free_in
from sheetwatch.parser import parse, parse_rule

HEAD = "event go(); event p(number); event q(word, number); def twice(a, b) = q(a, b) and p(b);\n"


class FreeInTest(unittest.TestCase):
    """Point 2.1."""

    def check_free(self, text, *names):
        self.assertEqual(free_in(parse_rule(text)), names, text)

    def test_names_of_calls_and_compares(self):
        self.check_free("p(x)", "x")
        self.check_free("p()")
        self.check_free("true")
        self.check_free("false")
        self.check_free('q(z, 3, x, "y", x)', "x", "z")
        self.check_free("x = y", "x", "y")
        self.check_free("b + a - 1 < z + a", "a", "b", "z")
        self.check_free('"x" <= 3')

    def test_they_ascend_by_the_codes_of_characters(self):
        self.check_free("p(b, a, Z, a_, aa, a1, B)", "B", "Z", "a", "a1", "a_", "aa", "b")

    def test_operators(self):
        for word in ("implies", "or", "and", "since", "until", "since[1, 2]", "until[0, 3]"):
            self.check_free(f"q(z) {word} p(x, z)", "x", "z")
        for word in ("not", "before", "next", "once", "held", "soon", "kept", "soon[1, 2]", "held[3, *]"):
            self.check_free(f"{word} p(y, x)", "x", "y")

    def test_some_and_all_bind_behind_the_dot(self):
        for word in ("some", "all"):
            self.check_free(f"{word} x. p(x, y)", "y")
            self.check_free(f"{word} x, y. p(x, y)")
            self.check_free(f"{word} x. p(y)", "y")
            self.check_free(f"p(x) and {word} x. p(x)", "x")
            self.check_free(f"({word} x. p(x)) and p(x)", "x")
            self.check_free(f"{word} x. (p(y) and some y. p(x, y, z))", "y", "z")

    def test_a_group_binds_all_but_its_names(self):
        self.check_free("n = count() of p(x, y)", "n")
        self.check_free("n = count(; x) of p(x, y)", "n", "x")
        self.check_free("n = sum(y; x) of p(x, y)", "n", "x")
        self.check_free("n = sum(y; y, x) of p(x, y)", "n", "x", "y")
        self.check_free("n = sum(n) of p(n)", "n")
        self.check_free("n = count(; z) of p(x)", "n", "z")
        self.check_free("n = count() of m = most(y; k) of p(y, k)", "n")
        self.check_free("p(x) and n = count() of p(x)", "n", "x")
        self.check_free("some n. n = count(; x) of p(x)", "x")


class CheckNamesTest(unittest.TestCase):
    """Point 2.2."""

    def check_right(self, text):
        self.assertIsNone(check_names(parse(HEAD + text)), text)

    def check_wrong(self, error, word, text):
        with self.assertRaises(error) as caught:
            check_names(parse(HEAD + text))
        self.assertIs(caught.exception.__class__, error)
        self.assertEqual(caught.exception.word, word, text)

    def check_wrong_rule(self, error, word, rule):
        """The rule is wrong in every kind of item, and at every place of another rule."""
        self.check_wrong(error, word, f"watch w = {rule};")
        self.check_wrong(error, word, f"def d(x, y, z, n, m) = {rule};")
        for word_before in ("not", "some k.", "all k.", "before", "next", "once", "held", "soon", "kept[1, 2]"):
            self.check_wrong(error, word, f"watch w = {word_before} ({rule});")
        for operator in ("implies", "or", "and", "since", "until[0, 3]"):
            self.check_wrong(error, word, f"watch w = go() {operator} ({rule});")
            self.check_wrong(error, word, f"watch w = ({rule}) {operator} go();")
        self.check_wrong(error, word, f"watch w = k = count() of ({rule});")

    def test_right_rules(self):
        self.assertIsNone(check_names(()))
        self.check_right("")
        self.check_right("watch w = go() and p(x) and q(y, 3) and twice(z, z) and x < y + 1;")
        self.check_right("watch w = n = count() of p(x); watch v = n = count(; x) of q(x, y);")
        self.check_right("watch w = n = sum(x) of p(x); watch v = n = least(x; x) of p(x);")
        self.check_right("watch w = n = sum(n) of p(n);")
        self.check_right("watch w = some x, y. (q(x, y) and all x. p(x));")
        self.check_right("def d() = go(); watch w = d();")
        self.check_right("def d(x) = p(1); def e(x) = some y. (q(x, y) and d(y));")
        self.check_right("def d(n, x) = n = count(; x) of q(x, y);")

    def test_events_and_watches_are_names_of_their_own(self):
        self.check_right("watch p = p(x); watch twice = go();")
        self.check_right("watch w = go(); event w(); watch v = w();")
        self.check_right("def d(p, go) = p(p) and q(go, p);")

    def test_second_events_defs_and_watches(self):
        self.check_wrong(DoubleName, "p", "event p(number);")
        self.check_wrong(DoubleName, "p", "event p(word, word);")
        self.check_wrong(DoubleName, "p", "def p(x) = true;")
        self.check_wrong(DoubleName, "twice", "event twice();")
        self.check_wrong(DoubleName, "twice", "def twice(a, b) = true;")
        self.check_wrong(DoubleName, "w", "watch w = go(); watch v = go(); watch w = p(x);")

    def test_equal_params_and_names(self):
        self.check_wrong(DoubleName, "x", "def d(x, y, x) = true;")
        self.check_wrong(DoubleName, "y", "def d(x, y, y, x) = true;")
        self.check_wrong_rule(DoubleName, "x", "some x, x. p(x)")
        self.check_wrong_rule(DoubleName, "y", "all x, y, z, y. p(x)")
        self.check_wrong_rule(DoubleName, "x", "n = count(; x, y, x) of q(x, y)")
        self.check_wrong_rule(DoubleName, "n", "n = count(; x, n) of q(x, n)")
        self.check_wrong_rule(DoubleName, "n", "n = sum(x; n, x, n) of q(x, n)")
        self.check_wrong_rule(DoubleName, "n", "n = count(; x, n, x) of q(x, n)")

    def test_unknown_calls(self):
        self.check_wrong_rule(UnknownName, "r", "r(x)")
        self.check_wrong_rule(UnknownName, "r", "r()")
        self.check_wrong(UnknownName, "late", "watch w = late(); event late();")
        self.check_wrong(UnknownName, "late", "def d() = late(); def late() = go();")
        self.check_wrong(UnknownName, "d", "def d() = d();")
        self.check_wrong(UnknownName, "w", "watch w = go(); watch v = w();")
        self.check_wrong(UnknownName, "w", "watch w = w();")

    def test_names_of_groups_that_are_not_free_in_them(self):
        self.check_wrong_rule(UnknownName, "z", "n = sum(z) of p(x)")
        self.check_wrong_rule(UnknownName, "z", "n = count(; x, z) of p(x)")
        self.check_wrong_rule(UnknownName, "z", "n = most(x; z) of some z. q(x, z)")
        self.check_wrong_rule(UnknownName, "x", "n = sum(x) of m = count() of p(x)")
        self.check_wrong_rule(UnknownName, "n", "n = sum(n) of p(x)")
        self.check_wrong_rule(UnknownName, "y", "n = sum(y; x, z) of p(m)")
        self.check_wrong_rule(UnknownName, "z", "n = sum(m; z, x) of p(m)")

    def test_free_names_of_defs(self):
        self.check_wrong(UnknownName, "y", "def d(x) = q(x, y);")
        self.check_wrong(UnknownName, "a", "def d() = q(c, a) and p(b);")
        self.check_wrong(UnknownName, "n", "def d(x) = n = count(; x) of p(x);")
        self.check_wrong(UnknownName, "x", "def d(y) = p(x) and some x. p(x);")

    def test_counts_of_calls(self):
        self.check_wrong_rule(WrongCount, "p", "p()")
        self.check_wrong_rule(WrongCount, "p", "p(x, y)")
        self.check_wrong_rule(WrongCount, "go", "go(1)")
        self.check_wrong_rule(WrongCount, "q", "q(x)")
        self.check_wrong_rule(WrongCount, "twice", "twice(x)")
        self.check_wrong_rule(WrongCount, "twice", "twice(x, y, 3)")

    def test_counts_of_functions(self):
        self.check_wrong_rule(WrongCount, "count", "n = count(x) of p(x)")
        self.check_wrong_rule(WrongCount, "count", "n = count(x; x) of p(x)")
        for function in ("sum", "least", "most"):
            self.check_wrong_rule(WrongCount, function, f"n = {function}() of p(x)")
            self.check_wrong_rule(WrongCount, function, f"n = {function}(; x) of p(x)")

    def test_the_first_item_and_part_counts(self):
        self.check_wrong(UnknownName, "r", "watch w = r(); watch w = p();")
        self.check_wrong(DoubleName, "w", "watch w = go(); watch w = r(); event p();")
        self.check_wrong(WrongCount, "p", "watch w = p() and r();")
        self.check_wrong(UnknownName, "r", "watch w = r(x) since p();")
        self.check_wrong(WrongCount, "p", "watch w = p() until r(x);")
        self.check_wrong(UnknownName, "r", "watch w = r() implies some x, x. go();")

    def test_the_order_in_a_def(self):
        self.check_wrong(DoubleName, "p", "def p(x, x) = r();")
        self.check_wrong(DoubleName, "x", "def d(x, x) = r();")
        self.check_wrong(UnknownName, "r", "def d() = q(x, y) and r();")
        self.check_wrong(WrongCount, "go", "def d() = p(x) and go(1);")

    def test_the_order_in_a_call(self):
        self.check_wrong(UnknownName, "r", "watch w = r(1, 2, 3);")

    def test_the_order_in_some_and_all(self):
        for word in ("some", "all"):
            self.check_wrong(DoubleName, "x", f"watch w = {word} x, x. r();")

    def test_the_order_in_a_group(self):
        self.check_wrong(DoubleName, "n", "watch w = n = count(y; n) of r();")
        self.check_wrong(DoubleName, "x", "watch w = n = sum(; x, x) of r();")
        self.check_wrong(WrongCount, "count", "watch w = n = count(y; z) of r();")
        self.check_wrong(WrongCount, "most", "watch w = n = most(; z) of p();")
        self.check_wrong(UnknownName, "r", "watch w = n = sum(y; z) of r();")
        self.check_wrong(WrongCount, "p", "watch w = n = sum(y; z) of p();")
        self.check_wrong(UnknownName, "y", "watch w = n = sum(y; a) of go();")
        self.check_wrong(UnknownName, "z", "watch w = n = sum(y; z, a) of p(y);")
        self.check_wrong(UnknownName, "b", "watch w = n = sum(y; y, b, a) of p(y);")

    def test_long_rows(self):
        rule = " and ".join(["p(x)"] * 100)
        self.check_right(f"watch w = {rule};")
        self.check_wrong(UnknownName, "r", f"watch w = {rule} and r();")
        self.assertEqual(free_in(parse_rule(rule + " and x < " + " + ".join("abcd" * 40))), tuple("abcdx"))

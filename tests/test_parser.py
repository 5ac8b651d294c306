"""Points 1.5 to 1.7: the grammar, trees and the place of what the grammar does not allow."""

import unittest

from sheetwatch.errors import BadCharacter, BadNumber, BadQuote, Unexpected
from sheetwatch.parser import parse, parse_rule

P = ("call", "p", ())
Q = ("call", "q", ())
R = ("call", "r", ())
S = ("call", "s", ())
X = ("name", "x")
Y = ("name", "y")
Z = ("name", "z")


class ParserCase(unittest.TestCase):
    def check_rule(self, text, tree):
        self.assertEqual(parse_rule(text), tree, text)

    def check_wrong(self, text, row, column, error=Unexpected, read=parse_rule):
        with self.assertRaises(error) as caught:
            read(text)
        self.assertIs(caught.exception.__class__, error)
        self.assertEqual((caught.exception.row, caught.exception.column), (row, column), text)

    def check_items_wrong(self, text, row, column, error=Unexpected):
        self.check_wrong(text, row, column, error, parse)


class ItemsTest(ParserCase):
    """Items in points 1.5 and 1.6."""

    def test_no_items(self):
        for text in ("", " ", "\n\n", "# nothing"):
            self.assertEqual(parse(text), ())

    def test_events(self):
        self.assertEqual(parse("event go();"), (("event", "go", ()),))
        self.assertEqual(parse("event p(number);"), (("event", "p", ("number",)),))
        self.assertEqual(parse("event p(word, number,word);"), (("event", "p", ("word", "number", "word")),))

    def test_defs(self):
        self.assertEqual(parse("def f() = true;"), (("def", "f", (), ("true",)),))
        self.assertEqual(parse("def f(x) = x = y;"), (("def", "f", ("x",), ("compare", "=", X, Y)),))
        self.assertEqual(parse("def f(x, y, x) = p() implies q();"), (
            ("def", "f", ("x", "y", "x"), ("implies", P, Q)),
        ))

    def test_watches(self):
        self.assertEqual(parse("watch w = p();"), (("watch", "w", P),))
        self.assertEqual(parse("watch w = p() or q();"), (("watch", "w", ("or", P, Q)),))

    def test_several_items(self):
        self.assertEqual(parse("watch w = p();event p();\n# a def\ndef f(x) = false; watch w = q();"), (
            ("watch", "w", P), ("event", "p", ()), ("def", "f", ("x",), ("false",)), ("watch", "w", Q),
        ))


class RuleTreesTest(ParserCase):
    """Rules and terms in points 1.5 and 1.6."""

    def test_the_example_of_the_interface(self):
        self.check_rule("p(x) and not once[1,5] q(x, 3)", (
            "and", ("call", "p", (("name", "x"),)), ("not", ("once", 1, 5, ("call", "q", (("name", "x"), ("num", 3))))),
        ))

    def test_calls(self):
        self.check_rule("p()", P)
        self.check_rule("p(x)", ("call", "p", (X,)))
        self.check_rule('p (x,"",0,"a, b" , 1000000000000)', (
            "call", "p", (X, ("text", ""), ("num", 0), ("text", "a, b"), ("num", 1000000000000)),
        ))

    def test_compares(self):
        for sign in ("=", "<", "<="):
            self.check_rule(f"x {sign} y", ("compare", sign, X, Y))
            self.check_rule(f'3{sign}"a"', ("compare", sign, ("num", 3), ("text", "a")))
            self.check_rule(f'"and"{sign}x', ("compare", sign, ("text", "and"), X))
            self.check_rule(f'x {sign} "("', ("compare", sign, X, ("text", "(")))

    def test_numbers_are_integers(self):
        tree = parse_rule("p(1, 0)")
        self.assertEqual([basic[1].__class__ for basic in tree[2]], [int, int])
        low, high = parse_rule("once[0, 1] p()")[1:3]
        self.assertEqual((low.__class__, high.__class__), (int, int))

    def test_terms_to_the_left(self):
        self.check_rule("x + y = z", ("compare", "=", ("plus", X, Y), Z))
        self.check_rule("x < y - z", ("compare", "<", X, ("less", Y, Z)))
        self.check_rule('x - 1 + "a" - y <= 2 + x', (
            "compare", "<=", ("less", ("plus", ("less", X, ("num", 1)), ("text", "a")), Y), ("plus", ("num", 2), X),
        ))

    def test_a_long_sum(self):
        tree = X
        for _ in range(200):
            tree = ("plus", tree, Y)
        self.check_rule("x" + " + y" * 200 + " = z", ("compare", "=", tree, Z))

    def test_true_false_not(self):
        self.check_rule("true", ("true",))
        self.check_rule("false", ("false",))
        self.check_rule("not p()", ("not", P))
        self.check_rule("not not x = y", ("not", ("not", ("compare", "=", X, Y))))

    def test_some_and_all(self):
        self.check_rule("some x . p()", ("some", ("x",), P))
        self.check_rule("all x, y.p()", ("all", ("x", "y"), P))
        self.check_rule("some x . all x, x . not p()", ("some", ("x",), ("all", ("x", "x"), ("not", P))))

    def test_words_with_limits(self):
        for word in ("before", "next", "once", "held", "soon", "kept"):
            self.check_rule(f"{word} p()", (word, 0, None, P))
            self.check_rule(f"{word}[0, *] p()", (word, 0, None, P))
            self.check_rule(f"{word} [2,*] p()", (word, 2, None, P))
            self.check_rule(f"{word}[ 0 , 0 ]p()", (word, 0, 0, P))
            self.check_rule(f"{word}[7, 3] {word} p()", (word, 7, 3, (word, 0, None, P)))
            self.check_rule(f"{word}[0, 1000000000000] not p()", (word, 0, 1000000000000, ("not", P)))

    def test_since_and_until(self):
        for word in ("since", "until"):
            self.check_rule(f"p() {word} q()", (word, 0, None, P, Q))
            self.check_rule(f"p() {word}[0, *] q()", (word, 0, None, P, Q))
            self.check_rule(f"p() {word}[3,*] q()", (word, 3, None, P, Q))
            self.check_rule(f"p(){word}[3,4]q()", (word, 3, 4, P, Q))
            self.check_rule(f"not p() {word} once q()", (word, 0, None, ("not", P), ("once", 0, None, Q)))

    def test_groups(self):
        for function in ("count", "sum", "least", "most"):
            self.check_rule(f"x = {function}() of p()", ("group", "x", function, None, (), P))
            self.check_rule(f"x={function} (y)of p()", ("group", "x", function, "y", (), P))
            self.check_rule(f"x = {function}(; a) of p()", ("group", "x", function, None, ("a",), P))
            self.check_rule(
                f"x = {function}(y; a, b) of not p()", ("group", "x", function, "y", ("a", "b"), ("not", P)),
            )

    def test_a_name_before_a_parenthesis_begins_a_call(self):
        self.check_rule("x\n(y)", ("call", "x", (Y,)))
        self.check_wrong("x (y) = 3", 1, 7)
        self.check_wrong("x (y + 1)", 1, 6)

    def test_a_name_before_equals_and_a_function_begins_a_group(self):
        self.check_wrong("x = count", 1, 10)
        self.check_wrong("x = sum + 1", 1, 9)
        self.check_wrong("x < count() of p()", 1, 5)
        self.check_wrong("3 = count() of p()", 1, 5)
        self.check_wrong("x + y = count() of p()", 1, 9)
        self.check_wrong("x = y = count() of p()", 1, 7)
        self.check_rule('x = "count"', ("compare", "=", X, ("text", "count")))
        self.check_rule("x = counts", ("compare", "=", X, ("name", "counts")))

    def test_texts_that_look_like_words(self):
        self.check_wrong('x = y "and" p()', 1, 7)
        self.check_wrong('p() "and" q()', 1, 5)
        self.check_wrong('"("p() = 1', 1, 4)
        self.check_wrong('once"[1, 2] p()', 1, 5, BadQuote)


class LevelsTest(ParserCase):
    """What operators take to themselves, in points 1.5 and 1.6."""

    def test_and_or_to_the_left(self):
        for word in ("and", "or"):
            self.check_rule(f"p() {word} q() {word} r() {word} s()", (word, (word, (word, P, Q), R), S))
            self.check_rule(f"p() {word} (q() {word} r())", (word, P, (word, Q, R)))

    def test_implies_to_the_right(self):
        self.check_rule("p() implies q() implies r()", ("implies", P, ("implies", Q, R)))
        self.check_rule("(p() implies q()) implies r()", ("implies", ("implies", P, Q), R))

    def test_one_level_in_another(self):
        self.check_rule("p() and q() or r() and s()", ("or", ("and", P, Q), ("and", R, S)))
        self.check_rule("p() or q() and r() or s()", ("or", ("or", P, ("and", Q, R)), S))
        self.check_rule("p() or q() implies r() or s()", ("implies", ("or", P, Q), ("or", R, S)))
        self.check_rule("p() and q() implies r() and s()", ("implies", ("and", P, Q), ("and", R, S)))
        self.check_rule("p() and q() since r() and s()", ("and", ("and", P, ("since", 0, None, Q, R)), S))
        self.check_rule("p() until q() implies r() since s()", (
            "implies", ("until", 0, None, P, Q), ("since", 0, None, R, S),
        ))
        self.check_rule("p() implies q() or r() implies s()", ("implies", P, ("implies", ("or", Q, R), S)))

    def test_prefixes_take_one_plain(self):
        for text, form in (
            ("not", ("not",)), ("some x .", ("some", ("x",))), ("all x .", ("all", ("x",))),
            ("once", ("once", 0, None)), ("before[1, 2]", ("before", 1, 2)),
            ("x = count() of", ("group", "x", "count", None, ())),
        ):
            self.check_rule(f"{text} p() and q()", ("and", (*form, P), Q))
            self.check_rule(f"{text} p() since q()", ("since", 0, None, (*form, P), Q))
            self.check_rule(f"p() until {text} q()", ("until", 0, None, P, (*form, Q)))
            self.check_rule(f"{text} (p() or q())", (*form, ("or", P, Q)))
            self.check_rule(f"{text} {text} p()", (*form, (*form, P)))

    def test_since_and_until_only_once_without_parentheses(self):
        for one in ("since", "until"):
            for other in ("since[1, 2]", "until"):
                self.check_wrong(f"p() {one} q() {other} r()", 1, 15)
        self.check_rule("(p() since q()) until r()", ("until", 0, None, ("since", 0, None, P, Q), R))
        self.check_rule("p() since (q() until r())", ("since", 0, None, P, ("until", 0, None, Q, R)))

    def test_parentheses_leave_no_trace(self):
        self.check_rule("((p()))", P)
        self.check_rule("((p()) and ((q())))", ("and", P, Q))

    def test_nested_40_deep(self):
        for prefix, tree in (
            ("not ", ("not",)), ("once[1, 2] ", ("once", 1, 2)), ("some x . ", ("some", ("x",))),
            ("x = count() of ", ("group", "x", "count", None, ())),
        ):
            expected = P
            for _ in range(40):
                expected = (*tree, expected)
            self.check_rule(prefix * 40 + "p()", expected)
        self.check_rule("(" * 40 + "p()" + ")" * 40, P)

    def test_operators_nested_40_deep(self):
        for word, limits in (("and", ()), ("or", ()), ("implies", ()), ("since", (0, None)), ("until", (0, None))):
            right = left = P
            for _ in range(40):
                right = (word, *limits, Q, right)
                left = (word, *limits, left, Q)
            self.check_rule(f"q() {word} (" * 40 + "p()" + ")" * 40, right)
            self.check_rule("(" * 40 + "p()" + f") {word} q()" * 40, left)
        self.check_rule("p()" + " and q()" * 40, self.row_of_ands(40))

    def row_of_ands(self, many):
        tree = P
        for _ in range(many):
            tree = ("and", tree, Q)
        return tree


class UnexpectedTest(ParserCase):
    """Point 1.7."""

    def test_in_items(self):
        for text, row, column in (
            ("p();", 1, 1), (";", 1, 1), ("event", 1, 6), ("event 1", 1, 7), ("event count();", 1, 7),
            ("event p;", 1, 8), ("event p(", 1, 9), ("event p(;", 1, 9), ("event p(x);", 1, 9),
            ('event p("word");', 1, 9), ("event p(number", 1, 15), ("event p(number;", 1, 15),
            ("event p(number,)", 1, 16), ("event p()", 1, 10), ("event p() event q();", 1, 11),
            ("event p();;", 1, 11), ("event p(); p()", 1, 12), ("def f", 1, 6), ("def f = true;", 1, 7),
            ("def f(number) = true;", 1, 7), ("def f(x y)", 1, 9), ("def f(x,) = true;", 1, 9), ("def f(1)", 1, 7),
            ("def f() true;", 1, 9), ("def f() = ;", 1, 11), ("def f() = true", 1, 15),
            ("def f() = true, p();", 1, 15), ("def f() <= true;", 1, 9), ("watch w() = p();", 1, 8),
            ("watch = p();", 1, 7), ("watch w = p()", 1, 14), ("watch w = p() p();", 1, 15),
            ("watch w =\n\n  p() # ;\n  # end\n ", 5, 2), ("watch w = p();\nwatch w = p()\n", 3, 1), ("true;", 1, 1),
        ):
            self.check_items_wrong(text, row, column)

    def test_in_rules(self):
        for text, column in (
            ("", 1), ("   ", 4), ("p() ;", 5), ("p() p()", 5), ("event", 1), ("p", 2), ("p and q", 3), ("x = ", 5),
            ("x = and", 5), ("x = y = z", 7), ("x < y < z", 7), ("x = y (", 7), ("x + ", 5), ("x + (y) = z", 5),
            ("(x) = y", 3), ("(x + 1) = y", 7), ("x + y", 6), ("x + y p()", 7), ("= x", 1), ("* = x", 1),
            ("- 1 = x", 1), ("x = - 1", 5), ("x = 1 * 2", 7), ("x = true", 5), ("3(", 2), ('"a"(', 4), ("1 2", 3),
            ("x y", 3), ("x.", 2), ("p(", 3), ("p(,", 3), ("p(x", 4), ("p(x,", 5), ("p(x,)", 5), ("p(x y)", 5),
            ("p(x + y)", 5), ("p(q())", 4), ("p(true)", 3), ("p(x;)", 4), ("p)", 2), ("true(", 5),
            ("true = true", 6), ("not", 4), ("not and p()", 5), ("some", 5), ("some .", 6), ("some 1", 6),
            ("some x", 7), ("some x p()", 8), ("some x y", 8), ("some x,", 8), ("some x, . p()", 9), ("some x .", 9),
            ("all x; p()", 6), ("some x . ;", 10), ("some (x) . p()", 6), ("once[", 6), ("once[]", 6),
            ("once[*, 1] p()", 6), ("once[x", 6), ("once[1", 7), ("once[1]", 7), ("once[1 2]", 8), ("once[1, ]", 9),
            ("once[1, x]", 9), ("once[1, *", 10), ("once[1, 2 p()", 11), ("once[1, 2, 3]", 10), ("once[1, 2]", 11),
            ("once[- 1, 2]", 6), ("once(1, 2)", 7), ("not[1, 2] p()", 4), ("p() and", 8), ("p() and or q()", 9),
            ("and p()", 1), ("p() and[1, 2] q()", 8), ("p() implies", 12), ("p() since", 10),
            ("p() since[1, 2]", 16), ("p() since p", 12), ("p() not q()", 5), ("p() once q()", 5), ("(", 2),
            ("()", 2), ("(p()", 5), ("(p();", 5), ("p())", 4), ("(p()))", 6), ("(p() q())", 6), ("[p()]", 1),
            ("x = count of p()", 11), ("x = count(", 11), ("x = count(1)", 11), ("x = count(y", 12),
            ("x = sum(y z)", 11), ("x = sum(y, z)", 10), ("x = sum(y;", 11), ("x = sum(y;)", 11),
            ("x = sum(y; a", 13), ("x = sum(y; a,)", 14), ("x = sum(y; a b)", 14), ("x = sum(y; a; b)", 13),
            ("x = sum(y) p()", 12), ("x = sum(y) of", 14), ("x = sum(y) of y", 16), ("x = sum[1, 2](y) of p()", 8),
            ("count(y) of p()", 1), ('x = count("y")', 11),
        ):
            self.check_wrong(text, 1, column)

    def test_rows_count(self):
        self.check_wrong("p()\nand\n  (q() or\n r()\n", 5, 1)
        self.check_wrong("p()\nand # or\n  and", 3, 3)

    def test_errors_of_tokens_come_first(self):
        self.check_wrong("and p( $", 1, 8, BadCharacter)
        self.check_wrong(") 01", 1, 3, BadNumber)
        self.check_wrong('; ; "', 1, 5, BadQuote)
        self.check_items_wrong("; ;\n ; $ 01", 2, 4, BadCharacter)
        self.check_items_wrong("p(\n1a", 2, 1, BadNumber)
        self.check_items_wrong('p(\n\n "\n"', 3, 2, BadQuote)


class ValuesTest(ParserCase):
    """Point 0.4: lists in trees are tuples."""

    def test_all_is_made_of_tuples(self):
        tree = parse(
            "event p(number, word); def f(x, y) = some a, b . p(x, 1) and x = sum(y; a, b) of p(a, y);"
            "watch w = once[1, 2] p(1, 2) since[1, *] x + 1 < y;"
        )
        self.check_values(tree)

    def check_values(self, value):
        self.assertIn(value.__class__, (tuple, int, str, None.__class__))
        if value.__class__ is tuple:
            for member in value:
                self.check_values(member)

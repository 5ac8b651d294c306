"""Points 1.8 and 1.9: the one printed form, and parentheses just where they are needed."""

import random
import unittest

from sheetwatch.parser import parse, parse_rule
from sheetwatch.printing import print_rule, print_rules

P = ("call", "p", ())
Q = ("call", "q", ())
X = ("name", "x")
Y = ("name", "y")
COMPARE = ("compare", "<=", X, Y)

# For each level some rules of it.
OF_LEVEL = {
    0: (("implies", P, Q),),
    1: (("or", P, Q),),
    2: (("and", P, Q),),
    3: (("since", 0, None, P, Q), ("until", 1, 2, P, Q)),
    4: (
        P, COMPARE, ("true",), ("false",), ("not", P), ("some", ("x",), P), ("all", ("x", "y"), P),
        ("before", 0, None, P), ("next", 0, 1, P), ("once", 1, None, P), ("held", 1, 2, P), ("soon", 0, None, P),
        ("kept", 3, 3, P),
        ("group", "x", "count", None, (), P), ("group", "x", "sum", "y", ("z",), P),
    ),
}


class PrintingCase(unittest.TestCase):
    def check_rule(self, tree, text):
        self.assertEqual(print_rule(tree), text)
        self.assertEqual(parse_rule(text), tree)

    def check_items(self, tree, text):
        self.assertEqual(print_rules(tree), text)
        self.assertEqual(parse(text), tree)


class FormsTest(PrintingCase):
    """Point 1.8."""

    def test_items(self):
        self.check_items((), "")
        self.check_items((("event", "go", ()),), "event go();\n")
        self.check_items((("event", "p", ("number",)),), "event p(number);\n")
        self.check_items((("event", "p", ("word", "number")),), "event p(word, number);\n")
        self.check_items((("def", "f", (), ("true",)),), "def f() = true;\n")
        self.check_items((("def", "f", ("x", "y"), COMPARE),), "def f(x, y) = x <= y;\n")
        self.check_items((("watch", "w", ("implies", P, Q)),), "watch w = p() implies q();\n")

    def test_each_item_is_a_row(self):
        self.check_items(
            (("watch", "w", P), ("event", "p", ()), ("def", "f", ("x",), ("not", P)), ("watch", "w", Q)),
            "watch w = p();\nevent p();\ndef f(x) = not p();\nwatch w = q();\n",
        )

    def test_calls_compares_and_terms(self):
        self.check_rule(P, "p()")
        self.check_rule(("call", "p", (X,)), "p(x)")
        self.check_rule(("call", "p", (X, ("num", 12), ("text", "a, b (;)"), ("text", ""))), 'p(x, 12, "a, b (;)", "")')
        for sign in ("=", "<", "<="):
            self.check_rule(("compare", sign, X, ("num", 0)), f"x {sign} 0")
            self.check_rule(("compare", sign, ("text", "a  b"), ("num", 1000000000000)), f'"a  b" {sign} 1000000000000')
        self.check_rule(("compare", "=", ("plus", X, Y), ("less", ("num", 3), X)), "x + y = 3 - x")
        self.check_rule(
            ("compare", "<", ("less", ("plus", ("less", X, ("num", 1)), ("text", "+")), Y), X), 'x - 1 + "+" - y < x',
        )

    def test_plain_words(self):
        self.check_rule(("true",), "true")
        self.check_rule(("false",), "false")
        self.check_rule(("not", ("not", P)), "not not p()")
        self.check_rule(("some", ("x",), P), "some x. p()")
        self.check_rule(("all", ("x", "y", "x"), P), "all x, y, x. p()")

    def test_limits(self):
        for word in ("before", "next", "once", "held", "soon", "kept"):
            self.check_rule((word, 0, None, P), f"{word} p()")
            self.check_rule((word, 0, 0, P), f"{word}[0, 0] p()")
            self.check_rule((word, 0, 12, P), f"{word}[0, 12] p()")
            self.check_rule((word, 1, None, P), f"{word}[1, *] p()")
            self.check_rule((word, 5, 3, (word, 0, None, COMPARE)), f"{word}[5, 3] {word} x <= y")
            self.check_rule((word, 1, None, ("or", P, Q)), f"{word}[1, *] (p() or q())")

    def test_operators(self):
        for word in ("and", "or", "implies"):
            self.check_rule((word, P, Q), f"p() {word} q()")
        for word in ("since", "until"):
            self.check_rule((word, 0, None, P, Q), f"p() {word} q()")
            self.check_rule((word, 0, 1, P, Q), f"p() {word}[0, 1] q()")
            self.check_rule((word, 1, None, P, Q), f"p() {word}[1, *] q()")
            self.check_rule((word, 0, 0, P, ("and", P, Q)), f"p() {word}[0, 0] (p() and q())")

    def test_groups(self):
        for function in ("count", "sum", "least", "most"):
            self.check_rule(("group", "x", function, None, (), P), f"x = {function}() of p()")
            self.check_rule(("group", "x", function, "y", (), P), f"x = {function}(y) of p()")
            self.check_rule(("group", "x", function, None, ("a",), P), f"x = {function}(; a) of p()")
            self.check_rule(("group", "x", function, "y", ("a", "b"), P), f"x = {function}(y; a, b) of p()")
            self.check_rule(
                ("group", "x", function, "y", ("a",), ("or", P, Q)), f"x = {function}(y; a) of (p() or q())",
            )

    def test_the_example_of_the_interface(self):
        self.assertEqual(print_rule(parse_rule("p(x) and not once[1,5] q(x, 3)")), "p(x) and not once[1, 5] q(x, 3)")

    def test_one_form_for_all_ways_to_write(self):
        text = (
            "\n def  f ( x,y )=((once [0 , *]p ( x ,\"a\" )))  # f\n and(some x .x=count( ; y)of((q( )))) ;"
            "watch w=x+1<=2;"
        )
        self.assertEqual(
            print_rules(parse(text)),
            'def f(x, y) = once p(x, "a") and some x. x = count(; y) of q();\nwatch w = x + 1 <= 2;\n',
        )


class ParenthesesTest(PrintingCase):
    """Point 1.9."""

    def check_place(self, before, after, need, around):
        for level, rules in OF_LEVEL.items():
            for rule in rules:
                text = f"({print_rule(rule)})" if level < need else print_rule(rule)
                self.check_rule(around(rule), f"{before}{text}{after}")

    def test_sides_of_operators(self):
        for word, left, right in (("implies", 1, 0), ("or", 1, 2), ("and", 2, 3)):
            self.check_place("", f" {word} p()", left, lambda rule, word=word: (word, rule, P))
            self.check_place(f"p() {word} ", "", right, lambda rule, word=word: (word, P, rule))

    def test_sides_of_since_and_until(self):
        for word in ("since", "until"):
            self.check_place("", f" {word} p()", 4, lambda rule, word=word: (word, 0, None, rule, P))
            self.check_place(f"p() {word}[1, 2] ", "", 4, lambda rule, word=word: (word, 1, 2, P, rule))

    def test_behind_prefixes(self):
        for text, form in (
            ("not ", ("not",)), ("some x. ", ("some", ("x",))), ("all x, y. ", ("all", ("x", "y"))),
            ("x = most(y; z) of ", ("group", "x", "most", "y", ("z",))),
        ):
            self.check_place(text, "", 4, lambda rule, form=form: (*form, rule))
        for word in ("before", "next", "once", "held", "soon", "kept"):
            self.check_place(f"{word} ", "", 4, lambda rule, word=word: (word, 0, None, rule))
            self.check_place(f"{word}[3, *] ", "", 4, lambda rule, word=word: (word, 3, None, rule))

    def test_whole_rules(self):
        self.check_place("", "", 0, lambda rule: rule)
        for rules in OF_LEVEL.values():
            for rule in rules:
                text = print_rule(rule)
                self.check_items(
                    (("def", "f", (), rule), ("watch", "w", rule)), f"def f() = {text};\nwatch w = {text};\n",
                )

    def test_some_examples(self):
        for text in (
            "p() or q() or p() implies q() implies p()", "(p() implies q()) implies p()", "p() or (q() or p())",
            "p() and (q() and p()) and p()", "(p() or q()) and p() since (q() until p())", "not (not p() since p())",
            "not x <= y and (p() implies q())", "some x. (some y. p() or q()) or p()", "x = 1 since x + 1 = 2",
        ):
            self.assertEqual(print_rule(parse_rule(text)), text)


class DepthTest(PrintingCase):
    """Point 0.5."""

    def test_nested_40_deep(self):
        for prefix, form in (
            ("not ", ("not",)), ("once[1, 2] ", ("once", 1, 2)), ("some x. ", ("some", ("x",))),
            ("x = count() of ", ("group", "x", "count", None, ())),
        ):
            tree = P
            for _ in range(40):
                tree = (*form, tree)
            self.check_rule(tree, prefix * 40 + "p()")

    def test_operators_nested_40_deep(self):
        for word, limits in (("and", ()), ("or", ()), ("implies", ()), ("since", (0, None)), ("until", (0, None))):
            left = right = P
            for _ in range(40):
                left = (word, *limits, left, Q)
                right = (word, *limits, Q, right)
            if word != "implies":
                self.check_rule(right, f"q() {word} (" * 39 + f"q() {word} p()" + ")" * 39)
            if word in ("and", "or"):
                self.check_rule(left, "p()" + f" {word} q()" * 40)
            else:
                self.check_rule(left, "(" * 39 + f"p() {word} q()" + f") {word} q()" * 39)
            if word == "implies":
                self.check_rule(right, "q() implies " * 40 + "p()")


class Maker:
    """Makes trees by a fixed row of numbers."""

    def __init__(self, seed):
        self.dice = random.Random(seed)

    def names(self, least):
        return tuple(self.name() for _ in range(self.dice.randrange(least, 4)))

    def name(self):
        return self.dice.choice(("a", "Z9", "x_", "sums", "of1", "nota"))

    def basic(self):
        return self.dice.choice((
            ("name", self.name()), ("num", self.dice.choice((0, 7, 10**12))),
            ("text", self.dice.choice(("", "(", "a#b;"))),
        ))

    def term(self):
        term = self.basic()
        for _ in range(self.dice.randrange(3)):
            term = (self.dice.choice(("plus", "less")), term, self.basic())
        return term

    def limits(self):
        return self.dice.choice(((0, None), (0, 0), (3, None), (2, 10**12)))

    def leaf(self):
        return self.dice.choice((
            ("true",), ("false",), ("call", self.name(), tuple(self.basic() for _ in range(self.dice.randrange(3)))),
            ("compare", self.dice.choice(("=", "<", "<=")), self.term(), self.term()),
        ))

    def rule(self, depth):
        if depth == 0 or self.dice.random() < 0.1:
            return self.leaf()
        form = self.dice.choice(("not", "and", "or", "implies", "some", "group", "before", "since"))
        if form in ("and", "or", "implies"):
            return form, self.rule(depth - 1), self.rule(depth - 1)
        if form == "not":
            return form, self.rule(depth - 1)
        if form == "some":
            return self.dice.choice(("some", "all")), self.names(1), self.rule(depth - 1)
        if form == "before":
            word = self.dice.choice(("before", "next", "once", "held", "soon", "kept"))
            return word, *self.limits(), self.rule(depth - 1)
        if form == "since":
            word = self.dice.choice(("since", "until"))
            return word, *self.limits(), self.rule(depth - 1), self.rule(depth - 1)
        function = self.dice.choice(("count", "sum", "least", "most"))
        y = self.dice.choice((None, self.name()))
        return form, self.name(), function, y, self.names(0), self.rule(depth - 1)

    def item(self):
        form = self.dice.choice(("event", "def", "watch"))
        if form == "event":
            kinds = tuple(self.dice.choice(("number", "word")) for _ in range(self.dice.randrange(4)))
            return form, self.name(), kinds
        if form == "def":
            return form, self.name(), self.names(0), self.rule(4)
        return form, self.name(), self.rule(4)


class RoundTripTest(PrintingCase):
    """Point 1.8: parsing what was printed gives the same tree."""

    def test_made_rules(self):
        maker = Maker(1)
        for _ in range(1000):
            tree = maker.rule(5)
            self.assertEqual(parse_rule(print_rule(tree)), tree)

    def test_made_texts_of_rules(self):
        maker = Maker(2)
        for _ in range(100):
            tree = tuple(maker.item() for _ in range(5))
            text = print_rules(tree)
            self.assertEqual(parse(text), tree)
            self.assertEqual(text.count("\n"), 5)

    def test_no_parentheses_can_be_left_out(self):
        maker = Maker(3)
        for _ in range(300):
            text = print_rule(maker.rule(4))
            tree = parse_rule(text)
            for first, second in pairs_of_parentheses(text):
                shorter = text[:first] + text[first + 1:second] + text[second + 1:]
                self.assertNotEqual(tree_or_none(shorter), tree, (text, shorter))


def pairs_of_parentheses(text):
    """The places of the parentheses around rules, those of calls and functions left out."""
    pairs = []
    begun = []
    in_text = False
    for at, character in enumerate(text):
        if character == '"':
            in_text = not in_text
        elif character == "(" and not in_text:
            begun.append(at)
        elif character == ")" and not in_text:
            first = begun.pop()
            if first == 0 or text[first - 1] in " (":
                pairs.append((first, at))
    return pairs


def tree_or_none(text):
    try:
        return parse_rule(text)
    except ValueError:
        return None

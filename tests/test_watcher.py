"""Points 7.1 to 7.5, and 0.3 and 5.6 for the watcher: what it is made from, what it tells, and what it saves."""

import random
import unittest

from sheetwatch import errors
from sheetwatch.core import core_of
from sheetwatch.judge import settled
from sheetwatch.kinds import kinds_of
from sheetwatch.logs import read_log, write_line
from sheetwatch.meaning import table_at
from sheetwatch.parser import parse, parse_rule
from sheetwatch.watcher import Watcher
from tests.plain import rows_held
from tests.test_engine import is_plain
from tests.watchable import EVENTS, random_log

RULES = """
event login(word); event door(number); event go();
def seen(u) = once[0, 10] login(u);
watch late = login(u) and not before seen(u);
watch calm = not go() until[0, 3] door(d);
watch many = n = count() of seen(u);
"""
LOG = ['@1 login("ann") door(4)', "@2 go()", '@2 login("bob") login("ann") door(7)', "@6", "@13 go() door(1)"]
ANSWERS = [
    [("late", 0, 1, ("u",), (("ann",),)), ("many", 0, 1, ("n",), ((1,),))],
    [("late", 1, 2, ("u",), ()), ("many", 1, 2, ("n",), ((1,),))],
    [("late", 2, 2, ("u",), (("bob",),)), ("many", 2, 2, ("n",), ((2,),))],
    [("late", 3, 6, ("u",), ()), ("calm", 0, 1, ("d",), ((4,),)), ("calm", 1, 2, ("d",), ()),
     ("calm", 2, 2, ("d",), ((7,),)), ("many", 3, 6, ("n",), ((2,),))],
    [("late", 4, 13, ("u",), ()), ("calm", 3, 6, ("d",), ()), ("many", 4, 13, ("n",), ())],
]
HEAD = "event p(number); event q(number, number); event r(number, word); event s(word); event go();\n"
ATOMS = (
    "p(x)", "q(x, y)", "q(y, x)", "q(x, x)", "r(x, w)", "s(w)", "go()", "p(1)", "once q(x, y)", "once[0, 5] p(x)",
    "before p(x)", "next[0, 9] q(x, y)", "soon[0, 4] p(x)", "p(x) and q(x, y)", "p(x) and not go()",
    "q(x, y) and x < y", "q(x, y) and z = x - y", "not q(x, x) since[0, 20] p(x)", "not go() until[0, 6] q(x, y)",
    "n = count() of once[0, 9] q(x, y)", "n = sum(x; w) of once r(x, w)", "n = most(x) of q(x, y)", "d(x)",
    "d(x) and not once d(x)", "held[0, 5] not go()", "kept[1, 3] not p(1)", "all x . (p(x) implies once q(x, x))",
    "p(x) or q(x, x)", "some y . q(x, y) and p(y)", "x = 3 and p(x)", "w = \"a\" and r(x, w)", "true", "false",
)


class MakingTest(unittest.TestCase):
    """Point 7.1."""

    def check_error(self, text, error, word=None):
        with self.assertRaises(error, msg=text) as caught:
            Watcher(text)
        self.assertIs(type(caught.exception), error)
        if word is not None:
            self.assertEqual(caught.exception.word, word, text)

    def test_fields(self):
        watcher = Watcher(RULES)
        self.assertEqual(watcher.events, {"login": ("word",), "door": ("number",), "go": ()})
        tree = parse(RULES)
        defs = {"seen": tree[3][2:]}
        self.assertEqual(watcher.watches, tuple([(item[1], core_of(item[2], defs)) for item in tree[4:]]))
        self.assertEqual(watcher.points, 0)
        self.assertEqual(watcher.held(), 0)

    def test_a_text_without_watches(self):
        for text in ("", "event p(number);", "# nothing\n", "def d(x) = x < 1;"):
            watcher = Watcher(text)
            self.assertEqual(watcher.watches, ())
            self.assertEqual(watcher.take("@3"), [])
            self.assertEqual(watcher.take("@4"), [])
            self.assertEqual((watcher.points, watcher.held()), (2, 0))

    def test_errors_of_the_text(self):
        self.check_error("watch w = go( ;", errors.Unexpected)
        self.check_error("watch w = x < 007;", errors.BadNumber)
        self.check_error('watch w = x = "a;', errors.BadQuote)
        self.check_error("watch w = $;", errors.BadCharacter)
        with self.assertRaises(errors.Unexpected) as caught:
            Watcher("event p(number);\n watch w = and;")
        self.assertEqual((caught.exception.row, caught.exception.column), (2, 12))

    def test_errors_of_names(self):
        self.check_error("watch w = go();", errors.UnknownName, "go")
        self.check_error("event go(); watch w = go(); watch w = go();", errors.DoubleName, "w")
        self.check_error("event go(); watch w = go(1);", errors.WrongCount, "go")

    def test_errors_of_kinds(self):
        self.check_error(HEAD + "watch w = p(x) and s(x);", errors.WrongKind, "s")
        self.check_error(HEAD + "watch w = s(x) and x < 3;", errors.WrongKind, "<")
        self.check_error(HEAD + "watch w = x = x;", errors.NoKind, "x")

    def test_rules_that_cannot_be_watched(self):
        self.check_error(HEAD + "watch w = not p(x);", errors.NotWatchable, "w")
        self.check_error(HEAD + "watch w = p(x); watch v = x < 3;", errors.NotWatchable, "v")
        self.check_error(HEAD + "watch w = soon p(x);", errors.NotWatchable, "w")
        # The core of a def is a part of that of the watch.
        self.check_error(HEAD + "def d(x) = x < 3; watch w = d(x);", errors.NotWatchable, "w")
        Watcher(HEAD + "def d(x) = x < 3; watch w = p(x);")

    def test_the_order_of_errors(self):
        text, name = "watch a = ;", "watch b = nothing();"
        kind, unwatched = "watch c = p(x) and s(x);", "watch d = not p(x);"
        self.check_error(HEAD + unwatched + kind + name + text, errors.Unexpected)
        self.check_error(HEAD + unwatched + kind + name, errors.UnknownName, "nothing")
        self.check_error(HEAD + unwatched + kind, errors.NotWatchable, "d")
        self.check_error(HEAD + kind + unwatched, errors.WrongKind, "s")
        self.check_error(HEAD + "watch w = not (p(x) and s(x));", errors.WrongKind, "s")
        self.check_error(HEAD + "watch w = x = y or p(z);", errors.NoKind, "x")
        self.check_error(HEAD + unwatched + "watch d = p(x);", errors.DoubleName, "d")


class TakingTest(unittest.TestCase):
    """Points 7.2, 7.3 and 5.6."""

    def test_answers(self):
        watcher = Watcher(RULES)
        for many, (line, answers) in enumerate(zip(LOG, ANSWERS), start=1):
            self.assertEqual(watcher.take(line), answers)
            self.assertEqual(watcher.points, many)

    def test_held_is_the_sum_over_the_watches(self):
        watcher = Watcher(RULES)
        log = read_log("\n".join(LOG), watcher.events)
        for many, line in enumerate(LOG, start=1):
            watcher.take(line)
            self.assertEqual(watcher.held(), sum(rows_held(core, log[:many]) for _, core in watcher.watches))

    def test_nothing_is_settled(self):
        watcher = Watcher("event go(); watch w = soon[0, 5] go(); watch v = next go();")
        self.assertEqual(watcher.take("@1 go()"), [])
        self.assertEqual(watcher.take("@1 go()"), [("v", 0, 1, (), ((),))])
        self.assertEqual(watcher.take("@6"), [("v", 1, 1, (), ())])
        self.assertEqual(watcher.take("@7"), [("w", 0, 1, (), ((),)), ("w", 1, 1, (), ((),)), ("v", 2, 6, (), ())])

    def test_two_watches_of_one_rule(self):
        watcher = Watcher("event p(number); watch b = p(x); watch a = p(x);")
        self.assertEqual(watcher.take("@5 p(-3)"), [
            ("b", 0, 5, ("x",), ((-3,),)), ("a", 0, 5, ("x",), ((-3,),)),
        ])

    def test_what_was_told_and_the_fields_are_not_tied_to_the_watcher(self):
        watcher = Watcher(RULES)
        first = watcher.take(LOG[0])
        first.clear()
        watcher.events.clear()
        for line, answers in list(zip(LOG, ANSWERS))[1:]:
            self.assertEqual(watcher.take(line), answers)

    def test_wrong_lines_change_nothing(self):
        watcher, other = Watcher(RULES), Watcher(RULES)
        for line, answers in zip(LOG, ANSWERS):
            for wrong in ("", "@99 nothing()", "@99 go(1)", "@99 door(01)", '@99 door("a")', "go()", line + "\n", "@x"):
                with self.assertRaises(errors.BadLine, msg=wrong):
                    watcher.take(wrong)
            self.assertEqual(watcher.take(line), answers)
            other.take(line)
            with self.assertRaises(errors.BadTime):
                watcher.take("@0 go()")
            with self.assertRaises(errors.BadLine):
                watcher.take("@0 nothing()")
            self.assertEqual(watcher.save(), other.save())
            self.assertEqual((watcher.points, watcher.held()), (other.points, other.held()))

    def test_times_may_stay_but_not_fall(self):
        watcher = Watcher("event go(); watch w = before[0, 0] go();")
        self.assertEqual(watcher.take("@1000000000000 go()"), [("w", 0, 10 ** 12, (), ())])
        with self.assertRaises(errors.BadTime):
            watcher.take("@999999999999")
        self.assertEqual(watcher.take("@1000000000000"), [("w", 1, 10 ** 12, (), ((),))])
        watcher = Watcher("event go(); watch w = go();")
        self.assertEqual(watcher.take("@0"), [("w", 0, 0, (), ())])


class PiecesTest(unittest.TestCase):
    """Point 7.4."""

    TEXT = "\n".join(LOG) + "\n"
    TOLD = [answer for answers in ANSWERS for answer in answers]

    def test_a_whole_text(self):
        self.assertEqual(Watcher(RULES).take_text(self.TEXT), self.TOLD)

    def test_the_last_line_needs_its_newline(self):
        watcher = Watcher(RULES)
        self.assertEqual(watcher.take_text(self.TEXT[:-1]), self.TOLD[:-3])
        self.assertEqual(watcher.points, 4)
        self.assertEqual(watcher.take_text(""), [])
        self.assertEqual(watcher.take_text("\n"), self.TOLD[-3:])
        self.assertEqual(watcher.points, 5)

    def test_any_pieces(self):
        source = random.Random(19)
        for _ in range(50):
            watcher = Watcher(RULES)
            told = []
            cuts = sorted(source.choices(range(len(self.TEXT) + 1), k=source.randrange(12)))
            for start, end in zip([0, *cuts], [*cuts, len(self.TEXT)]):
                told.extend(watcher.take_text(self.TEXT[start:end]))
            self.assertEqual(told, self.TOLD)

    def test_single_characters(self):
        watcher = Watcher(RULES)
        told = []
        for character in self.TEXT:
            told.extend(watcher.take_text(character))
        self.assertEqual(told, self.TOLD)

    def test_lines_beside_pieces(self):
        watcher = Watcher(RULES)
        self.assertEqual(watcher.take_text(LOG[1][:4]), [])
        self.assertEqual(watcher.take(LOG[0]), ANSWERS[0])
        self.assertEqual(watcher.take_text(LOG[1][4:] + "\n"), ANSWERS[1])

    def test_a_wrong_line_among_several(self):
        for wrong, error in (("@2 nothing()", errors.BadLine), ("", errors.BadLine), ("@0", errors.BadTime)):
            watcher, other = Watcher(RULES), Watcher(RULES)
            # The wrong line began in an earlier piece, and more lines and a part of one come behind it.
            self.assertEqual(watcher.take_text(f"{LOG[0]}\n{LOG[1]}\n{wrong[:2]}"), ANSWERS[0] + ANSWERS[1])
            with self.assertRaises(error):
                watcher.take_text(f"{wrong[2:]}\n{LOG[2]}\n@9")
            for line in LOG[:2]:
                other.take(line)
            self.assertEqual(watcher.save(), other.save())
            self.assertEqual(watcher.points, 2)
            self.assertEqual(watcher.take_text(LOG[2] + "\n"), ANSWERS[2])

    def test_what_comes_before_a_wrong_line_was_taken(self):
        watcher = Watcher(RULES)
        watcher.take_text(LOG[0][:7])
        with self.assertRaises(errors.BadLine):
            watcher.take_text(f"{LOG[0][7:]}\n{LOG[1]}\n{LOG[2]}\nx\n{LOG[4]}\n@77")
        self.assertEqual(watcher.points, 3)
        self.assertEqual(watcher.take_text(f"{LOG[3]}\n"), ANSWERS[3])
        with self.assertRaises(errors.BadTime):
            watcher.take_text("@1\n")
        self.assertEqual(watcher.take_text(f"{LOG[4]}\n"), ANSWERS[4])


class SavingTest(unittest.TestCase):
    """Point 7.5."""

    def test_at_each_line(self):
        watcher = Watcher(RULES)
        saved = [watcher.save()]
        for line in LOG:
            watcher.take(line)
            saved.append(watcher.save())
        before = repr(saved)
        for many, value in enumerate(saved):
            self.assertTrue(is_plain(value))
            other = Watcher(RULES)
            self.assertIsNone(other.lay_back(value))
            watcher.lay_back(value)
            for own in (other, watcher):
                self.assertEqual((own.points, own.save()), (many, value))
                self.assertEqual([own.take(line) for line in LOG[many:]], ANSWERS[many:])
        self.assertEqual(repr(saved), before)

    def test_times_still_do_not_fall(self):
        watcher, other = Watcher(RULES), Watcher(RULES)
        watcher.take(LOG[4])
        other.lay_back(watcher.save())
        with self.assertRaises(errors.BadTime):
            other.take("@12")
        watcher.lay_back(Watcher(RULES).save())
        self.assertEqual(watcher.take(LOG[0]), ANSWERS[0])

    def test_within_a_line(self):
        watcher, other = Watcher(RULES), Watcher(RULES)
        watcher.take_text(f"{LOG[0]}\n{LOG[1][:4]}")
        saved = watcher.save()
        other.take_text("@1 this is thrown away")
        other.lay_back(saved)
        self.assertEqual(other.take_text(LOG[1][4:] + "\n" + LOG[2]), ANSWERS[1])
        self.assertEqual(other.take_text("\n"), ANSWERS[2])
        other.lay_back(saved)
        self.assertEqual(other.points, 1)
        self.assertEqual(other.take_text(LOG[1][4:] + "\n"), ANSWERS[1])
        self.assertEqual(watcher.save(), saved)

    def test_each_character(self):
        text = "\n".join(LOG) + "\n"
        watcher = Watcher(RULES)
        told = []
        for character in text:
            told.extend(watcher.take_text(character))
            saved = watcher.save()
            watcher = Watcher(RULES)
            watcher.lay_back(saved)
        self.assertEqual(told, [answer for answers in ANSWERS for answer in answers])


class WholeTest(unittest.TestCase):
    """What is told of logs at random is the plain meaning's table at each point, once, as soon as it is settled."""

    def check_log(self, rules, log, source):
        watcher = Watcher(rules)
        times = tuple([time for time, _ in log])
        told = {name: 0 for name, _ in watcher.watches}
        for many, point in enumerate(log, start=1):
            expected = []
            for name, core in watcher.watches:
                while settled(core, times[:many], told[name]):
                    i = told[name]
                    expected.append((name, i, times[i], *table_at(core, log, i)))
                    told[name] += 1
            if source.random() < 0.2:
                saved = watcher.save()
                watcher = Watcher(rules)
                watcher.lay_back(saved)
            self.assertEqual(watcher.take_text(write_line(point) + "\n"), expected)

    def random_rules(self, source):
        text = HEAD + "def d(u) = some v . (q(u, v) and not q(v, u));\n"
        for at in range(source.choice((1, 2, 4))):
            rule = " and ".join([f"({atom})" for atom in source.sample(ATOMS, source.choice((1, 1, 2, 3)))])
            core = core_of(parse_rule(rule), {"d": parse("event q(number, number);" + text[len(HEAD):])[1][2:]})
            try:
                kinds_of(core, EVENTS)
            except errors.WrongKind:
                continue
            text += f"watch w{at} = {rule};\n"
        return text

    def test_rules_at_random(self):
        source = random.Random(20)
        for _ in range(200):
            self.check_log(self.random_rules(source), random_log(source, source.choice((1, 4, 12))), source)

    def test_long_logs(self):
        source = random.Random(21)
        large = 10 ** 12
        numbers = (-large, 1 - large, -1, 0, 1, 2, large - 1, large)
        words = ("", "a", "x" * 40, "~ !#$&'()*+,-./:;<=>?@[]^_`{|}")
        for steps in ((0, 1, 2), (0, 0, 0, 1), (10 ** 9, 10 ** 10, 0)):
            rules = HEAD + """
            watch a = once[0, 100000000000] q(x, y) and z = x + y;
            watch b = n = sum(x; w) of once[5, *] r(x, w);
            watch c = not p(x) since q(x, y);
            watch d = not s(w) until[0, 10000000000] r(x, w);
            watch e = p(x) and not soon[0, 3] q(x, x);
            watch f = n = count() of once[1, 100000000000] some x . r(x, w);
            """
            log = random_log(source, 60, numbers, words, steps)
            self.check_log(rules, log, source)

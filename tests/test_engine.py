"""Points 6.1 to 6.3, and 5.5 for the engine: nodes, what they give, their states and what they hold."""

import random
import unittest

from sheetwatch.core import core_of, free_names
from sheetwatch.engine import make_node
from sheetwatch.judge import ahead, back, settled
from sheetwatch.logs import read_log
from sheetwatch.meaning import table_at
from sheetwatch.parser import parse_rule
from tests.plain import rows_held
from tests.watchable import EVENTS, RandomCores, random_log


def core(text):
    return core_of(parse_rule(text), {})


def is_plain(value):
    """Whether something is made of tuples, integers, strings and None."""
    if isinstance(value, tuple):
        return all(is_plain(inner) for inner in value)
    return value is None or type(value) in (int, str)


class NodeCase(unittest.TestCase):
    def run_node(self, rule, log, node=None):
        """The list of the lists of tables that a node gives."""
        node = make_node(rule) if node is None else node
        return [node.add(point) for point in log]


class TablesTest(NodeCase):
    """Points 6.1 and 6.3."""

    LOG = "@1 p(1) p(2)\n@2 go() q(2, 3)\n@2 p(2)\n@6 q(2, 4) q(5, 5)\n@9\n"

    def check_node(self, text, expected, log=LOG):
        """Expected are for each line the lists of rows at the points that it settles."""
        tables = self.run_node(core(text), read_log(log, EVENTS))
        self.assertEqual([[list(rows) for _, rows in found] for found in tables], expected, text)
        for found in tables:
            for columns, _ in found:
                self.assertEqual(columns, free_names(core(text)))

    def test_rules_of_one_point(self):
        self.check_node("p(x)", [[[(1,), (2,)]], [[]], [[(2,)]], [[]], [[]]])
        self.check_node("go()", [[[]], [[()]], [[]], [[]], [[]]])
        self.check_node("not go()", [[[()]], [[]], [[()]], [[()]], [[()]]])
        self.check_node("true", [[[()]]] * 5)
        self.check_node("x = 3", [[[(3,)]]] * 5)
        self.check_node("p(x) and x < 2", [[[(1,)]], [[]], [[]], [[]], [[]]])
        self.check_node("p(x) and not x < 2", [[[(2,)]], [[]], [[(2,)]], [[]], [[]]])
        self.check_node("y = x + 1 and p(x)", [[[(1, 2), (2, 3)]], [[]], [[(2, 3)]], [[]], [[]]])
        self.check_node("q(x, y) and not q(x, 4)", [[[]], [[(2, 3)]], [[]], [[(5, 5)]], [[]]])
        self.check_node("p(x) or some y . q(x, y)", [[[(1,), (2,)]], [[(2,)]], [[(2,)]], [[(2,), (5,)]], [[]]])
        self.check_node("n = sum(y) of q(x, y)", [[[]], [[(3,)]], [[]], [[(9,)]], [[]]])

    def test_before(self):
        self.check_node("before p(x)", [[[]], [[(1,), (2,)]], [[]], [[(2,)]], [[]]])
        self.check_node("before[0, 0] q(x, y)", [[[]], [[]], [[(2, 3)]], [[]], [[]]])
        self.check_node("before next q(x, y)", [[[]], [[(2, 3)]], [[]], [[(2, 4), (5, 5)]], [[]]])
        self.check_node("before next next p(x)", [[[]], [], [[(2,)]], [[]], [[]]])

    def test_next(self):
        self.check_node("next p(x)", [[], [[]], [[(2,)]], [[]], [[]]])
        self.check_node("next[1, 4] q(x, y)", [[], [[(2, 3)]], [[]], [[(2, 4), (5, 5)]], [[]]])
        self.check_node("next next p(x)", [[], [], [[(2,)]], [[]], [[]]])
        self.check_node("next before p(x)", [[], [[(1,), (2,)]], [[]], [[(2,)]], [[]]])

    def test_since(self):
        self.check_node("once p(x)", [[[(1,), (2,)]]] * 5)
        self.check_node("once[0, 4] p(x)", [[[(1,), (2,)]], [[(1,), (2,)]], [[(1,), (2,)]], [[(2,)]], [[]]])
        self.check_node("once[1, 5] p(x)", [[[]], [[(1,), (2,)]], [[(1,), (2,)]], [[(1,), (2,)]], [[]]])
        self.check_node("once[1, *] p(x)", [[[]], [[(1,), (2,)]], [[(1,), (2,)]], [[(1,), (2,)]], [[(1,), (2,)]]])
        self.check_node("not p(x) since q(x, y)", [[[]], [[(2, 3)]], [[]], [[(2, 4), (5, 5)]], [[(2, 4), (5, 5)]]])
        self.check_node("p(x) since q(x, y)", [[[]], [[(2, 3)]], [[(2, 3)]], [[(2, 4), (5, 5)]], [[]]])
        self.check_node("not go() since p(x)", [[[(1,), (2,)]], [[]], [[(2,)]], [[(2,)]], [[(2,)]]])

    def test_until(self):
        self.check_node("soon[0, 1] p(x)", [[], [], [], [[(1,), (2,)], [(2,)], [(2,)]], [[]]])
        self.check_node("soon[1, 1] p(x)", [[], [], [], [[(2,)], [], []], [[]]])
        self.check_node("p(x) until[0, 4] q(x, y)", [
            [], [], [], [[(2, 3)]], [[(2, 3)], [(2, 4)]],
        ])
        self.check_node("not go() until[0, 1] p(x)", [[], [], [], [[(1,), (2,)], [], [(2,)]], [[]]])
        self.check_node("soon[0, 1] next p(x)", [[], [], [], [[(2,)], [(2,)], []], [[]]])

    def test_times_that_stay(self):
        log = "@5 p(1)\n@5 p(2)\n@5\n@6\n"
        self.check_node("once[0, 0] p(x)", [[[(1,)]], [[(1,), (2,)]], [[(1,), (2,)]], [[]]], log)
        self.check_node("soon[0, 0] p(x)", [[], [], [], [[(1,), (2,)], [(2,)], []]], log)
        self.check_node("soon[0, 1] p(x)", [[], [], [], []], log)

    def test_rules_at_random(self):
        source = random.Random(15)
        for _ in range(500):
            rule = RandomCores(source).core(source.choice((1, 2, 3, 4)))
            log = random_log(source, source.choice((3, 5, 8)))
            times = tuple([time for time, _ in log])
            node = make_node(rule)
            told = []
            for many in range(1, len(log) + 1):
                told.extend(node.add(log[many - 1]))
                self.assertEqual(len(told), len([i for i in range(many) if settled(rule, times[:many], i)]))
            self.assertEqual(told, [table_at(rule, log, i) for i in range(len(told))], (rule, log))

    def test_states(self):
        source = random.Random(16)
        for _ in range(300):
            rule = RandomCores(source).core(source.choice((2, 3, 4)))
            log = random_log(source, 7)
            node = make_node(rule)
            expected = self.run_node(rule, log)
            states = [node.state()]
            for point in log:
                node.add(point)
                states.append(node.state())
            last = repr(states)
            for many in source.sample(range(8), 3):
                self.assertTrue(is_plain(states[many]))
                fresh = make_node(rule)
                fresh.lay_back(states[many])
                self.assertEqual(fresh.state(), states[many])
                self.assertEqual(fresh.held(), rows_held(rule, log[:many]))
                self.assertEqual(self.run_node(rule, log[many:], fresh), expected[many:])
                # A node that has gone on may be laid back as well.
                node.lay_back(states[many])
                self.assertEqual(self.run_node(rule, log[many:], node), expected[many:])
            self.assertEqual(repr(states), last)

    def test_laying_back_returns_nothing(self):
        for text in ("p(x)", "not go()", "p(x) and q(x, y)", "p(x) or p(x)", "before p(x)", "next p(x)",
                     "p(x) since p(x)", "p(x) until[0, 3] p(x)", "n = count() of p(x)", "p(x) and x < 1"):
            node = make_node(core(text))
            self.assertIsNone(node.lay_back(node.state()))
            self.assertEqual(node.held(), 0)

    def test_what_was_given_stays_what_it_is(self):
        node = make_node(core("once p(x)"))
        found = node.add((1, (("p", ((1,),)),)))
        found.clear()
        self.assertEqual(node.add((2, ())), [(("x",), ((1,),))])


class HeldTest(NodeCase):
    """Points 6.2 and 6.3."""

    def check_held(self, text, log, expected):
        node = make_node(core(text))
        held = [node.held()]
        for point in read_log(log, EVENTS):
            node.add(point)
            held.append(node.held())
        self.assertEqual(held, [0, *expected], text)

    def test_rules_of_one_point_hold_nothing(self):
        for text in ("p(x)", "true", "x = 3", "not go()", "p(x) and p(x)", "p(x) or p(x)", "some x . p(x)",
                     "p(x) and not p(1)", "p(x) and x < 2", "n = sum(x) of p(x)"):
            self.check_held(text, "@1 p(1) p(2)\n@2 go()\n@3 p(1)\n", [0, 0, 0])

    def test_since_with_an_end(self):
        log = "@1 p(1) p(2)\n@1 p(2) p(3)\n@2 p(1)\n@4\n@5 p(7)\n@9\n"
        # The rows of one time are held once; a time is held as long as it is within high of the last point.
        self.check_held("once[0, 3] p(x)", log, [2, 3, 4, 4, 2, 0])
        self.check_held("once[2, 3] p(x)", log, [2, 3, 4, 4, 2, 0])
        self.check_held("once[0, 0] p(x)", log, [2, 3, 1, 0, 1, 0])
        self.check_held("once[0, 100] p(x)", log, [2, 3, 4, 4, 5, 5])

    def test_since_without_an_end(self):
        log = "@1 p(1) p(2)\n@1 p(2) p(3)\n@2 p(1)\n@4\n@5 p(7)\n@9 p(1)\n"
        self.check_held("once p(x)", log, [2, 3, 3, 3, 4, 4])
        # Behind the last point the times 1, 2 and 5 are one table; before that 5 is on its own.
        self.check_held("once[3, *] p(x)", log, [2, 3, 4, 4, 4, 5])

    def test_since_whose_first_part_fails(self):
        log = "@1 p(1) p(2)\n@2 q(1, 1) p(3)\n@3 q(3, 3) q(2, 2)\n@4 go()\n"
        self.check_held("not q(x, x) since[0, 9] p(x)", log, [2, 2, 0, 0])
        self.check_held("(q(x, x) or p(x)) since p(x)", log, [2, 2, 1, 0])
        self.check_held("not go() since[0, 9] p(x)", log, [2, 3, 3, 0])

    def test_since_whose_parts_wait(self):
        log = "@1 p(1) p(2)\n@2 p(3) q(1, 1)\n@3 go()\n@4 p(5)\n"
        # The tables of true wait for those of next, which are there one line later.
        self.check_held("once[0, 1] next p(x)", log, [1, 2, 2, 2])
        self.check_held("(next p(x)) since[0, 0] p(x)", log, [2, 3, 1, 1])
        self.check_held("not next p(x) since[0, 0] p(x)", log, [2, 3, 1, 1])

    def test_until(self):
        log = "@1 p(1) p(2)\n@2 q(1, 1)\n@3 p(3)\n@5\n@9\n@9\n"
        # Both parts' tables from the first point on that no table was given for; those of true have a row each.
        self.check_held("soon[0, 2] p(x)", log, [3, 4, 6, 3, 1, 2])
        self.check_held("not q(x, x) until[0, 2] p(x)", log, [2, 3, 4, 1, 0, 0])
        self.check_held("q(x, x) until[0, 0] p(x)", log, [2, 1, 1, 0, 0, 0])
        self.check_held("not go() until[0, 0] p(x)", log, [2, 0, 1, 0, 0, 0])

    def test_and_or(self):
        log = "@1 p(1) p(2)\n@2 q(1, 1) p(4)\n@3 p(3)\n@7\n"
        self.check_held("p(x) and next p(x)", log, [2, 1, 1, 0])
        self.check_held("(next p(x)) and p(x)", log, [2, 1, 1, 0])
        self.check_held("p(x) or next p(x)", log, [2, 1, 1, 0])
        self.check_held("p(x) and not next p(x)", log, [2, 1, 1, 0])
        self.check_held("(next p(x)) and not p(x)", log, [2, 1, 1, 0])
        self.check_held("(next p(x)) and x < 9", log, [0, 0, 0, 0])
        self.check_held("(next p(x)) and y = x + 1", log, [0, 0, 0, 0])
        self.check_held("(next p(x)) and not x = 9", log, [0, 0, 0, 0])
        self.check_held("true and soon[0, 2] p(x)", log, [4, 7, 10, 2])

    def test_before_and_next(self):
        log = "@1 p(1) p(2)\n@2 q(1, 1) p(4)\n@3 p(3) p(5) p(6)\n@7\n"
        self.check_held("before p(x)", log, [2, 1, 3, 0])
        self.check_held("before[0, 0] p(x)", log, [2, 1, 3, 0])
        self.check_held("before before p(x)", log, [2, 3, 4, 3])
        self.check_held("next p(x)", log, [0, 0, 0, 0])
        # What is told of the point before the last one is not needed any more.
        self.check_held("before next p(x)", log, [0, 0, 0, 0])
        self.check_held("next before p(x)", log, [2, 1, 3, 0])

    def test_what_stands_around(self):
        log = "@1 p(1) p(2)\n@2 p(2) p(4)\n@3\n"
        for text in ("not some x . {}", "some x . {}", "n = count() of {}", "before[0, 9] {}", "next {}", "{} and x < 3",
                     "{} and not x < 3", "{} and y = x", "{} and not p(x)", "{} or p(x)", "p(x) and {}"):
            extra = 2 if text.startswith("before") else 0
            held = [2 + extra, 4 + extra * 3 // 2, 2 + extra]
            self.check_held(text.format("(once[0, 1] p(x))"), log, held)

    def test_rules_at_random(self):
        source = random.Random(17)
        for _ in range(500):
            rule = RandomCores(source).core(source.choice((1, 2, 3, 4)))
            log = random_log(source, source.choice((3, 5, 8)))
            node = make_node(rule)
            for many in range(1, len(log) + 1):
                node.add(log[many - 1])
                self.assertEqual(node.held(), rows_held(rule, log[:many]), (rule, log[:many]))


    def test_what_cannot_matter_is_forgotten(self):
        for text in ("once p(x)", "once[0, 5] p(x)", "once[3, *] p(x)", "not go() since[2, 9] p(x)", "before p(x)",
                     "next p(x)", "soon[0, 5] p(x)", "p(x) and next p(x)", "(soon[0, 3] p(x)) since[0, 2] next p(x)",
                     "before next soon[0, 4] p(x)", "n = count() of once[0, 9] p(x)"):
            node = make_node(core(text))
            sizes = []
            for time in range(1000, 1200):
                node.add((time, (("p", ((7,),)),) if time < 1100 else ()))
                sizes.append(len(repr(node.state())))
            # Neither many rows nor many points without rows make it grow.
            self.assertEqual(sizes[50], sizes[90], text)
            self.assertEqual(sizes[150], sizes[190], text)


class FarPointsTest(NodeCase):
    """Points 5.5 and 6.2: what lies further back or ahead than a rule without next looks does not matter."""

    def test_rules_at_random(self):
        source = random.Random(18)
        compared = 0
        for _ in range(400):
            rule = RandomCores(source, unbounded=False, without=("next",)).core(source.choice((1, 2, 3)))
            log = random_log(source, 12, steps=(0, 1, 2, 4, 7))
            tables = [table for found in self.run_node(rule, log) for table in found]
            for i, table in enumerate(tables):
                time = log[i][0]
                kept = [k for k, point in enumerate(log) if time - back(rule) <= point[0] <= time + ahead(rule)]
                part = [log[k] for k in kept] + [(time + ahead(rule) + 1, ())] * 2
                # As many lines more as it takes until all is settled.
                part += [(part[-1][0] + 100 * k, ()) for k in range(1, 12)]
                found = [own for told in self.run_node(rule, part) for own in told]
                self.assertEqual(found[i - kept[0]], table, (rule, log, i))
                compared += len(kept) < len(log)
        self.assertGreater(compared, 1000)

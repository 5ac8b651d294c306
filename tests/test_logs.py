"""Points 4.1 to 4.3: lines, points and logs, and limits."""

import random
import unittest

from sheetwatch.errors import BadLine, BadTime, LogError
from sheetwatch.logs import read_line, read_log, within, write_line
from tests.watchable import EVENTS, WORDS, random_log

EVENTS_OF_DOORS = {"login": ("word", "number"), "door": ("number",), "go": (), "say": ("word",), "e2_x": ("word",)}
LARGEST = 10 ** 12
ALLOWED = "".join([chr(code) for code in range(32, 127) if chr(code) not in '%\\"'])


class LinesTest(unittest.TestCase):
    def read(self, line):
        return read_line(line, EVENTS_OF_DOORS)

    def check_line(self, line, point):
        self.assertEqual(self.read(line), point, line)

    def test_the_line_of_the_document(self):
        point = (12, (("door", ((-4,),)), ("login", (("ann", 3),))))
        self.check_line('@12 login("ann", 3) door(-4)', point)
        self.assertEqual(write_line(point), '@12 door(-4) login("ann", 3)')

    def test_events_without_values(self):
        self.check_line("@0 go()", (0, (("go", ((),)),)))
        self.check_line("@0go ( ) go()", (0, (("go", ((),)),)))
        self.assertEqual(write_line((0, (("go", ((),)),))), "@0 go()")

    def test_times_alone(self):
        self.check_line("@7", (7, ()))
        self.check_line("   @7   ", (7, ()))
        self.check_line(f"@{LARGEST}", (LARGEST, ()))
        self.assertEqual(write_line((LARGEST, ())), f"@{LARGEST}")

    def test_no_space_is_needed(self):
        self.check_line('@12login("ann",3)door(-4)go()', (12, (
            ("door", ((-4,),)), ("go", ((),)), ("login", (("ann", 3),)),
        )))

    def test_spaces_everywhere(self):
        self.check_line('  @12  login  (  "ann"  ,  3  )  door  (  -4  )  ', (12, (
            ("door", ((-4,),)), ("login", (("ann", 3),)),
        )))

    def test_rows_are_different_and_ascend(self):
        line = '@1 login("b", 2) door(10) login("a", 5) door(-3) login("b", -7) door(9) login("a", 5) door(10)'
        self.check_line(line, (1, (
            ("door", ((-3,), (9,), (10,))), ("login", (("a", 5), ("b", -7), ("b", 2))),
        )))

    def test_largest_values(self):
        self.check_line(f"@1 door({LARGEST}) door(-{LARGEST}) door(0)", (1, (
            ("door", ((-LARGEST,), (0,), (LARGEST,))),
        )))

    def test_texts(self):
        for text in ("", " ", "a" * 40, ALLOWED[:40], ALLOWED[40:80], ALLOWED[80:], "@12 go()", "(,)", "-1", "#"):
            self.check_line(f'@1 say("{text}")', (1, (("say", ((text,),)),)))
            self.assertEqual(write_line((1, (("say", ((text,),)),))), f'@1 say("{text}")')

    def test_names_with_digits_and_underscores(self):
        self.check_line('@1e2_x("1")', (1, (("e2_x", (("1",),)),)))

    def test_writing_several_rows(self):
        point = (3, (("door", ((-1,), (2,))), ("go", ((),)), ("login", (("", 0), ("a, b", 1)))))
        line = '@3 door(-1) door(2) go() login("", 0) login("a, b", 1)'
        self.assertEqual(write_line(point), line)
        self.check_line(line, point)

    def test_all_that_is_written_is_read(self):
        source = random.Random(3)
        for point in random_log(source, 200, (-LARGEST, -1, 0, 7, LARGEST), (*WORDS, ALLOWED[:40], "x y")):
            line = write_line(point)
            self.assertEqual(read_line(line, EVENTS), point)
            self.assertEqual(read_line(self.spaced(line, source), EVENTS), point)

    def spaced(self, line, source):
        """The line with its events in another order, some of them twice, and with spaces where they may stand."""
        time, *events = line.replace(") ", ")\n").replace(" ", "\n", 1).split("\n")
        events += [event for event in events if source.random() < 0.5]
        source.shuffle(events)
        found = " " * source.randrange(3) + time
        for event in events:
            name, values = event[:-1].split("(", 1)
            values = values.split(", ") if values else []
            parts = [name, "(", *",\n".join(values).split("\n"), ")"]
            found += "".join([" " * source.randrange(3) + part for part in parts])
        return found + " " * source.randrange(3)

    def test_what_is_passed_stays(self):
        events = dict(EVENTS_OF_DOORS)
        read_line("@1 go()", events)
        self.assertEqual(events, EVENTS_OF_DOORS)


class BadLinesTest(unittest.TestCase):
    def check_bad(self, line):
        with self.assertRaises(BadLine, msg=line) as caught:
            read_line(line, EVENTS_OF_DOORS)
        self.assertIsInstance(caught.exception, LogError)

    def test_lines_without_a_time(self):
        for line in ("", " ", "    ", "go()", "12 go()", "@", "@ 12", "@go()", "@-1", "@x", "@ ", "@@1", "@\t1"):
            self.check_bad(line)

    def test_wrong_times(self):
        for line in ("@01", "@00", "@007 go()", f"@{LARGEST + 1}", "@1" + "0" * 5000, "@1.5", "@1 2", "@1_0", "@+1"):
            self.check_bad(line)

    def test_wrong_events(self):
        for event in (
            "go", "go(", "go)", "go()) ", "go(()", "(go)", "go[]", "go();", "go(), go()", "()", "g o()", "go() x",
            "Go()", "goo()", "go2()", "nothing()", "door", "1()", ".go()", "go().", "go()# comment", "#",
            "- go()", "_go()",
        ):
            self.check_bad(f"@1 {event}")

    def test_wrong_counts(self):
        for event in (
            "go(1)", 'go("")', "door()", "door(1, 2)", 'login("a")', 'login("a", 1, 2)', "login()", "say()",
            "door(1,)", "door(,1)", "door(,)", "go(,)", 'login("a" 1)', 'login("a",, 1)',
        ):
            self.check_bad(f"@1 {event}")

    def test_wrong_kinds(self):
        for event in ('door("1")', 'door("")', "say(1)", "say(-1)", 'login(1, "a")', "login(1, 2)", 'login("a", "b")'):
            self.check_bad(f"@1 {event}")

    def test_wrong_numbers(self):
        for number in (
            "-0", "- 4", "--4", "+4", "04", "-04", "00", str(LARGEST + 1), f"-{LARGEST + 1}", "1" * 5000, "1.0", "1e3",
            "0x1", "4a", "a", "-", "1 2", "1_000", "\u0664",
        ):
            self.check_bad(f"@1 door({number})")

    def test_wrong_texts(self):
        for text in ('"', '"a', 'a"', "'a'", "a", '"a" "b"', '"a"b', '"' + "a" * 41 + '"', '"%"', '"\\"', '"\n"',
                     '"a\tb"', '"\u00e9"', '"a\rb"', '"""', "true"):
            self.check_bad(f"@1 say({text})")

    def test_other_characters(self):
        for line in ("@1\tgo()", "@1 go()\n", "\n@1 go()", "@1\r", "@1 go\u00a0()", "\ufeff@1", "@1\ngo()", "@1\x00"):
            self.check_bad(line)

    def test_nothing_is_declared(self):
        with self.assertRaises(BadLine):
            read_line("@1 go()", {})
        self.assertEqual(read_line("@1", {}), (1, ()))


class LogsTest(unittest.TestCase):
    def read(self, text):
        return read_log(text, EVENTS_OF_DOORS)

    def test_with_and_without_a_last_newline(self):
        points = [(1, (("go", ((),)),)), (1, ()), (5, (("door", ((2,),)),))]
        self.assertEqual(self.read("@1 go()\n@1\n@5 door(2)\n"), points)
        self.assertEqual(self.read("@1 go()\n@1\n@5 door(2)"), points)
        self.assertEqual(self.read(""), [])
        self.assertEqual(self.read("@0\n"), [(0, ())])
        self.assertEqual(self.read("@0"), [(0, ())])

    def test_bad_lines(self):
        for text in ("\n", "@1\n\n", "@1\n\n@2\n", "@1\n ", " ", "@1\n@2 nothing()", "@1\r\n@2", "@1\n@", "x\n@1"):
            with self.assertRaises(BadLine, msg=text):
                self.read(text)

    def test_times_that_fall(self):
        for text in ("@1\n@0\n", "@5\n@5\n@4", "@1\n@2 go()\n@1 go()\n@3"):
            with self.assertRaises(BadTime, msg=text) as caught:
                self.read(text)
            self.assertIsInstance(caught.exception, LogError)

    def test_the_first_error_is_raised(self):
        with self.assertRaises(BadTime):
            self.read("@2\n@1\nbad")
        with self.assertRaises(BadLine):
            self.read("@2\nbad\n@1")
        # A line that is bad is so whatever its time is.
        with self.assertRaises(BadLine):
            self.read("@2\n@1 nothing()")


class LimitsTest(unittest.TestCase):
    def test_within(self):
        for low, high, number, expected in (
            (0, None, 0, True), (0, None, LARGEST, True), (1, None, 0, False), (2, 5, 1, False), (2, 5, 2, True),
            (2, 5, 5, True), (2, 5, 6, False), (3, 3, 3, True), (5, 2, 3, False), (0, 0, 0, True), (0, 0, 1, False),
        ):
            self.assertIs(within(low, high, number), expected, (low, high, number))

"""Logs: from lines to points and back."""

from sheetwatch.errors import BadLine, BadTime
from sheetwatch.kinds import WORD
from sheetwatch.tables import rows_in_order
from sheetwatch.tokens import DIGITS, end_of_text, end_of_word, is_number


def read_line(line, events):
    """The point of a line without a newline; events is a dict from names to tuples of kinds."""
    return LineReader(line, events).read_point()


def write_line(point):
    """The line of a point, in one form."""
    time, events = point
    parts = [f"@{time}"]
    for name, rows in events:
        parts.extend([name + write_row(row) for row in rows])
    return " ".join(parts)


def write_row(row):
    """The text of a row of values: in parentheses, with words in quotation marks."""
    values = ", ".join([str(value) if isinstance(value, int) else f'"{value}"' for value in row])
    return f"({values})"


def read_log(text, events):
    """The list of the points of a text of lines."""
    points = []
    time = None
    for line in lines_of(text):
        point = read_line(line, events)
        check_time(point, time)
        time = point[0]
        points.append(point)
    return points


def lines_of(text):
    """The list of the lines of a text without their newlines; a last line without one counts if it is not empty."""
    lines = text.split("\n")
    if lines[-1] == "":
        lines.pop()
    return lines


def check_time(point, time):
    """Raises BadTime if a point comes before the time of the last one, which is None if there is none."""
    if time is not None and point[0] < time:
        raise BadTime()


def within(low, high, number):
    """Whether a number is within limits, of which the high one may be None."""
    return low <= number and (high is None or number <= high)


def rows_of_event(point, name):
    """The tuple of the rows of the event of a name in a point."""
    for other, rows in point[1]:
        if other == name:
            return rows
    return ()


class LineReader:
    """Goes through a line from left to right."""

    def __init__(self, line, events):
        self.line = line
        self.events = events
        self.at = 0

    def read_point(self):
        """The point of the whole line."""
        self.skip_spaces()
        self.take("@")
        time = self.read_number()
        found = {}
        self.skip_spaces()
        while self.at < len(self.line):
            name = self.read_name()
            found.setdefault(name, []).append(self.read_row(self.events[name]))
            self.skip_spaces()
        return (time, tuple([(name, rows_in_order(found[name])) for name in sorted(found)]))

    def read_name(self):
        """The name of a declared event."""
        behind = end_of_word(self.line, self.at)
        name = self.line[self.at:behind]
        if name not in self.events:
            raise BadLine()
        self.at = behind
        return name

    def read_row(self, kinds):
        """The tuple of the values between two parentheses, which must have these kinds."""
        self.skip_spaces()
        self.take("(")
        self.skip_spaces()
        row = []
        for kind in kinds:
            if row:
                self.take(",")
                self.skip_spaces()
            row.append(self.read_value(kind))
            self.skip_spaces()
        self.take(")")
        return tuple(row)

    def read_value(self, kind):
        """The value that begins here, which must have this kind."""
        if kind == WORD:
            return self.read_text()
        if self.sees("-"):
            return -self.read_number_but_zero()
        return self.read_number()

    def read_text(self):
        """The word in quotation marks that begins here."""
        behind = end_of_text(self.line, self.at) if self.sees('"') else None
        if behind is None:
            raise BadLine()
        word = self.line[self.at + 1:behind - 1]
        self.at = behind
        return word

    def read_number_but_zero(self):
        """The number behind the minus that stands here."""
        self.take("-")
        number = self.read_number()
        if number == 0:
            raise BadLine()
        return number

    def read_number(self):
        """The number that begins here, which has all digits that follow."""
        behind = self.at
        while behind < len(self.line) and self.line[behind] in DIGITS:
            behind += 1
        digits = self.line[self.at:behind]
        if digits == "" or not is_number(digits):
            raise BadLine()
        self.at = behind
        return int(digits)

    def skip_spaces(self):
        """Goes behind the spaces that stand here."""
        while self.sees(" "):
            self.at += 1

    def take(self, sign):
        """Goes behind this sign, which must stand here."""
        if not self.sees(sign):
            raise BadLine()
        self.at += 1

    def sees(self, sign):
        """Whether this sign of one character stands here."""
        return self.line[self.at:self.at + 1] == sign
